"""Edge hues: their chains and exchanges, their kinds and families."""

from huesandrounds.basics import is_row
from huesandrounds.bodies import check_body
from huesandrounds.checking import check_edge, check_hue, check_other_hue, check_size
from huesandrounds.errors import InvalidHues
from huesandrounds.extending import hues_from_zero, mixed
from huesandrounds.forms import turn_list
from huesandrounds.structure import (corner_edges, count_tied, edge_list, edge_places, edge_ties, lumps, pair, reach,
                                     ways_from)

MOST_FOR_HUES = 9
MOST_FOR_KINDS = 7
ORDERS = ((0, 1, 2), (0, 2, 1), (1, 0, 2), (1, 2, 0), (2, 0, 1), (2, 1, 0))
HUE_PAIRS = ((0, 1), (0, 2), (1, 2))


def is_edge_hues(body, value):
    """Whether any value is edge hues of a body."""
    check_body(body)
    return are_hues(body, value)


def are_hues(body, value):
    """Whether any value is edge hues of what is taken to be a body."""
    if not is_row(value, 3 * len(body) - 6, 0, 2):
        return False
    trios = [(value[a], value[b], value[c]) for a, b, c in corner_edges(body)]
    return all([one != other and one != third and other != third for one, other, third in trios])


def check_hues(body, value):
    """Raises InvalidHues for any value that is no edge hues of the body."""
    if not are_hues(body, value):
        raise InvalidHues("no edge hues of the body")


def count_edge_hues(body):
    """How many edge hues there are."""
    check_body(body)
    return len(hues_from_zero(body))


def edge_hues(body):
    """The ascending list of all edge hues."""
    check_body(body)
    check_size(body, MOST_FOR_HUES)
    return hue_list(body)


def hue_list(body):
    """The ascending list of all edge hues of what is taken to be a body."""
    return sorted([mixed(body, face_hues) for face_hues in hues_from_zero(body)])


def chain(body, hues, edge, hue):
    """The chain of an edge's own hue and another one that has the edge."""
    at = checked_place(body, hues, edge, hue)
    places = edge_list(body)
    return tuple([places[item] for item in chain_at(body, hues, at, hue)])


def exchanged(body, hues, edge, hue):
    """The edge hues behind the exchange of the chain that `chain` tells."""
    at = checked_place(body, hues, edge, hue)
    return swapped(hues, chain_at(body, hues, at, hue), hues[at], hue)


def checked_place(body, hues, edge, hue):
    """The place of an edge, behind all checks of what takes a chain of its own hue and another one."""
    check_body(body)
    check_hues(body, hues)
    check_edge(body, edge)
    at = edge_places(body)[edge]
    check_other_hue(hue, hues[at], 2)
    return at


def chain_at(body, hues, at, hue):
    """The ascending tuple of the places of the edges of the chain from a place on, of its hue and another one."""
    return reach(edge_ties(body), [item in (hues[at], hue) for item in hues], at)


def swapped(row, lot, one, other):
    """A row of hues in which each place of a lot, having one of two hues, gets the other one."""
    return tuple([one + other - hue if at in lot else hue for at, hue in enumerate(row)])


def hue_edges(body, hues, hue):
    """The ascending tuple of all edges with a hue."""
    check_body(body)
    check_hues(body, hues)
    check_hue(hue, 2)
    return edges_with(body, hues, hue)


def edges_with(body, hues, hue):
    """The ascending tuple of all edges with a hue, of what is taken to be edge hues."""
    return tuple([edge for edge, item in zip(edge_list(body), hues) if item == hue])


def hue_rings(body, hues, hue):
    """The ascending list of all chains of both other hues."""
    check_body(body)
    check_hues(body, hues)
    check_hue(hue, 2)
    return rings_outside(body, [item == hue for item in hues])


def rings_outside(body, struck):
    """The ascending list of the rings of all edges that are not struck, given whether each one is."""
    places = edge_list(body)
    rings = lumps(edge_ties(body), [not item for item in struck])
    return [tuple([places[at] for at in ring]) for ring in rings]


def chain_list(body, hues):
    """A list of all chains of any two hues."""
    return [ring for hue in range(3) for ring in rings_outside(body, [item == hue for item in hues])]


def is_perfect(body, hues):
    """Whether the edges of each two hues are one ring."""
    check_body(body)
    check_hues(body, hues)
    ties = edge_ties(body)
    return all([len(lumps(ties, [item != hue for item in hues])) == 1 for hue in range(3)])


def kinds(body):
    """The ascending list of the least edge hues of each kind."""
    check_body(body)
    check_size(body, MOST_FOR_KINDS)
    taken = {}
    least = []
    for hues in hue_list(body):
        if hues not in taken:
            least.append(hues)
            for other in _kind(body, hues):
                taken[other] = True
    return least


def kind_size(body, hues):
    """How many edge hues are of one kind with some."""
    check_body(body)
    check_hues(body, hues)
    check_size(body, MOST_FOR_KINDS)
    return len(_kind(body, hues))


def _kind(body, hues):
    """The ascending list of all edge hues of one kind with some."""
    turned = [_turned(body, hues, turn) for turn in turn_list(body)]
    return sorted({tuple([order[hue] for hue in row]) for row in turned for order in ORDERS})


def _turned(body, hues, turn):
    """The edge hues to which an own turn takes some."""
    places = edge_places(body)
    row = [0 for _ in hues]
    for at, edge in enumerate(edge_list(body)):
        row[places[pair(turn[edge[0]], turn[edge[1]])]] = hues[at]
    return tuple(row)


def families(body):
    """How many families the edge hues of a body are."""
    check_body(body)
    check_size(body, MOST_FOR_KINDS)
    return count_tied({hues: [other for _, other in _exchanges(body, hues)] for hues in hue_list(body)})


def steps(body, hues, aim):
    """Any tuple of as few exchanges as lead from the one to the other edge hues, or None."""
    check_body(body)
    check_hues(body, hues)
    check_hues(body, aim)
    check_size(body, MOST_FOR_KINDS)
    return paths_from(body, hues).get(aim)


def paths_from(body, hues):
    """For all edge hues of one family with some, a tuple of as few exchanges as lead there."""
    return ways_from({row: _exchanges(body, row) for row in hue_list(body)}, hues)


def _exchanges(body, hues):
    """A list of all exchanges, each as a pair (edge, hue), with the edge hues behind it."""
    places = edge_list(body)
    ties = edge_ties(body)
    found = []
    for one, other in HUE_PAIRS:
        for lump in lumps(ties, [hue in (one, other) for hue in hues]):
            at = lump[0]
            found.append(((places[at], one + other - hues[at]), swapped(hues, lump, one, other)))
    return found
