"""Pairings of corners, and lines over all edges but those of a pairing."""

from huesandrounds.basics import is_row
from huesandrounds.bodies import check_body
from huesandrounds.checking import check_number, is_edge_row
from huesandrounds.errors import InvalidDrawing, InvalidPairing
from huesandrounds.structure import corner_edges, edge_ends, edge_list, edge_places, followers, lumps, pair

MOST_LINE_NUMBER = 10 ** 12


def is_pairing(body, value):
    """Whether any value is a pairing of a body."""
    check_body(body)
    return pairs_corners(body, value)


def pairs_corners(body, value):
    """Whether any value is a pairing of what is taken to be a body."""
    if not isinstance(value, tuple) or len(value) != len(body) - 2 or not is_edge_row(body, value):
        return False
    ends = edge_ends(body)
    places = edge_places(body)
    met = sorted([corner for edge in value for corner in ends[places[edge]]])
    return met == list(range(2 * len(body) - 4))


def check_pairing(body, value):
    """Raises InvalidPairing for any value that is no pairing of the body."""
    if not pairs_corners(body, value):
        raise InvalidPairing("no pairing of the body")


def pairings(body):
    """The ascending list of all pairings."""
    check_body(body)
    return pairing_list(body)


def pairing_list(body):
    """The ascending list of all pairings of what is taken to be a body."""
    places = edge_list(body)
    return sorted([tuple([places[at] for at in sorted(row)]) for row in coverings(body, ())])


def coverings(body, left_out):
    """A list of all tuples of places of edges, just one of them at each corner, and none at those left out."""
    # Lots of corners are integers here, one binary figure for each corner.
    marks = [(1 << one) | (1 << other) for one, other in edge_ends(body)]
    covered = [((), sum([1 << corner for corner in left_out]))]
    for corner, around in enumerate(corner_edges(body)):
        own = 1 << corner
        longer = [(row, met) for row, met in covered if (met & own) != 0]
        for row, met in covered:
            if (met & own) == 0:
                longer.extend([(row + (at,), met | marks[at]) for at in around if (met & marks[at]) == 0])
        covered = longer
    return [row for row, _ in covered]


def count_lines(body, pairing, drawing):
    """How many lines a drawing of a pairing has."""
    check_body(body)
    check_pairing(body, pairing)
    if not is_row(drawing, len(pairing), 0, 1):
        raise InvalidDrawing("no drawing of the pairing")
    return _line_count(body, _crossings(body, pairing), drawing)


def line_sums(body, pairing):
    """For 0, 1, 2 .. lines, the number of even drawings with so many lines, less that of odd ones."""
    check_body(body)
    check_pairing(body, pairing)
    return sums_by_lines(body, pairing)


def sums_by_lines(body, pairing):
    """What `line_sums` tells of what is taken to be a pairing."""
    crossings = _crossings(body, pairing)
    drawings = [()]
    for _ in pairing:
        drawings = [row + (way,) for row in drawings for way in (0, 1)]
    sums = [0 for _ in range(len(body) - 1)]
    for drawing in drawings:
        lines = _line_count(body, crossings, drawing)
        sums[lines] = sums[lines] + (-1 if sum(drawing) % 2 == 1 else 1)
    return tuple(sums)


def signed_sum(body, pairing, number):
    """The signed sum of a pairing by a number."""
    check_body(body)
    check_pairing(body, pairing)
    check_number(number, 0, MOST_LINE_NUMBER)
    worth = 0
    for item in sums_by_lines(body, pairing)[::-1]:
        worth = worth * number + item
    return worth


def _crossings(body, pairing):
    """For each edge of a pairing, the places of the four other edges at its ends.

    The first two lie at the one end, the others at the other end; the first and the third one lie around one face.
    """
    places = edge_places(body)
    follow = followers(body)
    found = []
    for one, other in pairing:
        top, bottom = follow[(one, other)], follow[(other, one)]
        at_top = (places[pair(one, top)], places[pair(other, top)])
        found.append(at_top + (places[pair(one, bottom)], places[pair(other, bottom)]))
    return found


def _line_count(body, crossings, drawing):
    """How many lines a drawing has."""
    ties = [() for _ in range(3 * len(body) - 6)]
    for crossing, way in zip(crossings, drawing):
        a, b, c, d = crossing
        links = ((a, d), (b, c)) if way == 1 else ((a, c), (b, d))
        for one, other in links:
            ties[one] = ties[one] + (other,)
            ties[other] = ties[other] + (one,)
    # All edges but those of the pairing are tied to others.
    return len(lumps(ties, [row != () for row in ties]))
