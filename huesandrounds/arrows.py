"""Arrows of edges, right ones among them, and signs and sums of pairings by arrows."""

from huesandrounds.basics import is_row, is_sign_row
from huesandrounds.bodies import check_body
from huesandrounds.checking import check_corner
from huesandrounds.errors import InvalidArrows, InvalidWeights
from huesandrounds.lines import check_pairing, pairing_list
from huesandrounds.structure import (corner_edges, corner_list, edge_ends, edge_list, edge_places, edge_ways, pair,
                                     tree_from_zero)

MOST_WEIGHT = 10 ** 6


def are_arrows(body, value):
    """Whether any value is arrows of a body."""
    check_body(body)
    return is_sign_row(value, 3 * len(body) - 6)


def check_arrows(body, value):
    """Raises InvalidArrows for any value that is no arrows of the body."""
    if not is_sign_row(value, 3 * len(body) - 6):
        raise InvalidArrows("no arrows of the body")


def are_right(body, value):
    """Whether any value is right arrows of a body."""
    check_body(body)
    return _is_right_row(body, value)


def _is_right_row(body, value):
    """Whether any value is right arrows of what is taken to be a body."""
    if not is_sign_row(value, 3 * len(body) - 6):
        return False
    return all([many % 2 == 1 for many in _along(body, value)])


def _check_right(body, value):
    """Raises InvalidArrows for any value that is no right arrows of the body."""
    if not _is_right_row(body, value):
        raise InvalidArrows("no right arrows of the body")


def right_arrows(body):
    """Any right arrows."""
    check_body(body)
    places = edge_places(body)
    arrows = (1,) * (3 * len(body) - 6)
    # Each face is put right by its edge with the face ahead. The face 0 is right then by itself: each edge goes
    # along at one of its faces, so all edges and all faces are odd, or even, in number together.
    for ahead, face in tree_from_zero(body)[::-1]:
        if _along(body, arrows)[face] % 2 == 0:
            arrows = _turned(arrows, (places[pair(ahead, face)],))
    return arrows


def count_right(body):
    """How many right arrows there are."""
    check_body(body)
    # All edges are free but those of a tree of faces, which are told by the others.
    return 1 << (2 * len(body) - 5)


def along(body, arrows):
    """How many of its edges go along at a face, for each face."""
    check_body(body)
    check_arrows(body, arrows)
    return _along(body, arrows)


def _along(body, arrows):
    """What `along` tells of what is taken to be arrows."""
    sums = [0 for _ in body]
    for edge, way, arrow in zip(edge_list(body), edge_ways(body), arrows):
        # An edge that goes as it begins and ends goes along at its lesser face.
        face = edge[0] if (way[0] < way[1]) == (arrow == 1) else edge[1]
        sums[face] = sums[face] + 1
    return tuple(sums)


def _turned(arrows, places):
    """Arrows in which the edges at some places go the other way."""
    return tuple([-arrow if at in places else arrow for at, arrow in enumerate(arrows)])


def turned_at(body, arrows, corner):
    """The arrows in which the three edges of a corner go the other way."""
    check_body(body)
    check_arrows(body, arrows)
    check_corner(body, corner)
    return _turned(arrows, corner_edges(body)[corner_list(body).index(corner)])


def between(body, arrows, others):
    """The corners, without the last one, at which the one arrows must be turned to be the others."""
    check_body(body)
    _check_right(body, arrows)
    _check_right(body, others)
    ends = edge_ends(body)
    around = corner_edges(body)
    last = len(around) - 1
    turned = {last: False}
    queue = [last]
    at = 0
    while at < len(queue):
        here = queue[at]
        for edge in around[here]:
            there = ends[edge][0] + ends[edge][1] - here
            if there not in turned:
                turned[there] = turned[here] != (arrows[edge] != others[edge])
                queue.append(there)
        at = at + 1
    return tuple([corner for place, corner in enumerate(corner_list(body)) if turned[place]])


def pairing_sign(body, arrows, pairing):
    """The sign of a pairing by arrows."""
    check_body(body)
    check_arrows(body, arrows)
    check_pairing(body, pairing)
    return _sign(edge_places(body), edge_ends(body), arrows, pairing)


def _sign(places, ends, arrows, pairing):
    """The sign of a pairing by arrows, given the places and the ends of all edges."""
    met = [places[edge] for edge in pairing]
    back = [at for at in met if arrows[at] == -1]
    crossed = [at for at in met for other in met if _crosses(ends[at], ends[other])]
    return -1 if (len(back) + len(crossed)) % 2 == 1 else 1


def _crosses(one, other):
    """Whether just the greater end of the one edge lies between both ends of the other one."""
    return one[0] < other[0] < one[1] < other[1]


def arrow_sum(body, arrows, weights):
    """The sum of the worths of all pairings, each times its sign by arrows."""
    check_body(body)
    check_arrows(body, arrows)
    check_weights(body, weights)
    places = edge_places(body)
    ends = edge_ends(body)
    return sum([_sign(places, ends, arrows, row) * _worth(places, weights, row) for row in pairing_list(body)])


def pairing_sum(body, weights):
    """The sum of the worths of all pairings."""
    check_body(body)
    check_weights(body, weights)
    places = edge_places(body)
    return sum([_worth(places, weights, row) for row in pairing_list(body)])


def check_weights(body, value):
    """Raises InvalidWeights for any value that is no weights of the body."""
    if not is_row(value, 3 * len(body) - 6, -MOST_WEIGHT, MOST_WEIGHT):
        raise InvalidWeights("no weights of the body")


def _worth(places, weights, pairing):
    """The worth of a pairing by weights."""
    worth = 1
    for edge in pairing:
        worth = worth * weights[places[edge]]
    return worth
