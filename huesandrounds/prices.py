"""What rounds cost, and papers that no round costs less than a number."""

from huesandrounds.basics import is_row
from huesandrounds.bodies import check_body
from huesandrounds.checking import check_number, check_size, is_edge
from huesandrounds.errors import InvalidPrices
from huesandrounds.rounds import check_tour, is_tour, round_list
from huesandrounds.structure import corner_edges, corner_list, edge_ends, edge_list, edge_ties, lumps, replaced

MOST_PRICE = 10 ** 20
MOST_NUMBER = 10 ** 22
MOST_FOR_PAPER = 8
# What is told of an edge.
FREE = 0
TAKEN = 1
BARRED = 2


def check_prices(body, value):
    """Raises InvalidPrices for any value that is no prices of the body."""
    if not is_row(value, 3 * len(body) - 6, 0, MOST_PRICE):
        raise InvalidPrices("no prices of the body")


def price_sum(body, some, prices):
    """The sum of the prices of some edges."""
    return sum([price for edge, price in zip(edge_list(body), prices) if edge in some])


def cost(body, tour, prices):
    """What a round costs."""
    check_body(body)
    check_tour(body, tour)
    check_prices(body, prices)
    return price_sum(body, tour, prices)


def cheapest(body, prices):
    """The pair of the least that a round costs, and of the first round that costs so much."""
    check_body(body)
    check_prices(body, prices)
    return min(_costs(body, prices))


def dearest(body, prices):
    """The pair of the most that a round costs, and of the first round that costs so much."""
    check_body(body)
    check_prices(body, prices)
    least, tour = min([(-worth, tour) for worth, tour in _costs(body, prices)])
    return (-least, tour)


def _costs(body, prices):
    """A list of all rounds, each behind what it costs."""
    return [(price_sum(body, tour, prices), tour) for tour in round_list(body)]


class Ground:
    """What papers are held against: a body with its prices and a number, and what is tied to what."""

    def __init__(self, body, prices, number):
        self.shape = body
        self.prices = prices
        self.number = number
        self.edges = edge_list(body)
        self.corners = corner_list(body)
        self.rows = corner_edges(body)
        self.ends = edge_ends(body)
        self.ties = edge_ties(body)


def is_paper(body, prices, number, value):
    """Whether any value is a paper that no round costs less than a number."""
    check_body(body)
    check_prices(body, prices)
    check_number(number, 0, MOST_NUMBER)
    ground = Ground(body, prices, number)
    # A wrong paper mostly fails where some round leads, and great ones are left early so.
    for tour in round_list(body):
        if not _holds_for(ground, tour, value):
            return False
    return _holds(ground, (FREE,) * len(prices), value)


def _holds_for(ground, tour, value):
    """Whether a paper, where a round leads in it, comes to a right end."""
    marks = (FREE,) * len(ground.prices)
    while _is_fork(ground, marks, value):
        _, edge, taken, barred = value
        marks = replaced(marks, ground.edges.index(edge), TAKEN if edge in tour else BARRED)
        value = taken if edge in tour else barred
    return _is_end(ground, marks, value)


def _holds(ground, marks, value):
    """Whether any value is a paper behind what is told of the edges."""
    if not _is_fork(ground, marks, value):
        return _is_end(ground, marks, value)
    _, edge, taken, barred = value
    at = ground.edges.index(edge)
    if not _holds(ground, replaced(marks, at, TAKEN), taken):
        return False
    return _holds(ground, replaced(marks, at, BARRED), barred)


def _is_fork(ground, marks, value):
    """Whether any value has the form of a paper that takes, and bars, an edge of which nothing is told."""
    if not isinstance(value, tuple) or len(value) != 4 or value[0] != "edge":
        return False
    return is_edge(ground.shape, value[1]) and marks[ground.edges.index(value[1])] == FREE


def _is_end(ground, marks, value):
    """Whether any value is a paper that takes and bars no further edges."""
    if not isinstance(value, tuple) or not 1 <= len(value) <= 2:
        return False
    if len(value) == 2:
        return value[0] == "corner" and _is_lost(ground, marks, value[1])
    if value[0] == "ring":
        return _has_ring(ground, marks)
    return value[0] == "sum" and _is_dear(ground, marks)


def _is_lost(ground, marks, value):
    """Whether any value is a corner that no round can have with what is told of its edges."""
    if not is_row(value, 3, 0, len(ground.shape) - 1) or value not in ground.corners:
        return False
    return _is_broken(marks, ground.rows[ground.corners.index(value)])


def _is_broken(marks, row):
    """Whether all three edges of a corner are taken, or two of them at least are barred."""
    told = [marks[at] for at in row]
    return told.count(TAKEN) == 3 or told.count(BARRED) >= 2


def _has_ring(ground, marks):
    """Whether some of the taken edges are a ring that does not have all corners."""
    for lump in lumps(ground.ties, [mark == TAKEN for mark in marks]):
        # Edges with no more corners than edges have a ring; if it has all corners, and is all of them, no lesser one.
        corners = len({corner for at in lump for corner in ground.ends[at]})
        if len(lump) >= corners and not is_tour(ground.shape, tuple([ground.edges[at] for at in lump])):
            return True
    return False


def _is_dear(ground, marks):
    """Whether two edges at each corner, as they are told and as cheap as can be, cost twice the number, less 1."""
    total = 0
    for row in ground.rows:
        if _is_broken(marks, row):
            return False
        taken = [ground.prices[at] for at in row if marks[at] == TAKEN]
        free = sorted([ground.prices[at] for at in row if marks[at] == FREE])
        total = total + sum(taken) + sum(free[:2 - len(taken)])
    return total >= 2 * ground.number - 1


def paper(body, prices):
    """Any paper for the least that a round costs."""
    check_body(body)
    check_prices(body, prices)
    check_size(body, MOST_FOR_PAPER)
    least, _ = min(_costs(body, prices))
    return _paper_behind(Ground(body, prices, least), (FREE,) * len(prices))


def _paper_behind(ground, marks):
    """A paper behind what is told of the edges; there must be one."""
    for corner, row in zip(ground.corners, ground.rows):
        if _is_broken(marks, row):
            return ("corner", corner)
    if _has_ring(ground, marks):
        return ("ring",)
    if _is_dear(ground, marks):
        return ("sum",)
    # An edge near others that are told keeps the paper small.
    free = [at for at in range(len(marks)) if marks[at] == FREE]
    _, at = min([(len([near for near in ground.ties[at] if marks[near] == FREE]), at) for at in free])
    taken = _paper_behind(ground, replaced(marks, at, TAKEN))
    return ("edge", ground.edges[at], taken, _paper_behind(ground, replaced(marks, at, BARRED)))
