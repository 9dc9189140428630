"""Flows of a body by a number, and the face hues that have them."""

from huesandrounds.basics import is_row
from huesandrounds.bodies import check_body
from huesandrounds.checking import check_hue, check_number, check_size
from huesandrounds.errors import InvalidFaceHues, InvalidFlow
from huesandrounds.facehues import MOST_FOR_LOTS, MOST_HUES, are_face_hues, count_by
from huesandrounds.structure import edge_list, edge_places, pair, tree_from_zero, turned_corners


def is_flow(body, many, value):
    """Whether any value is a flow by a number."""
    _check_body_and_number(body, many)
    return _is_flow(body, many, value)


def flow_of(body, many, value):
    """The flow of face hues by so many hues."""
    _check_body_and_number(body, many)
    if not are_face_hues(body, value, many):
        raise InvalidFaceHues("no face hues of the body by so many hues")
    return tuple([(value[greater] - value[lesser]) % many for lesser, greater in edge_list(body)])


def hues_by_flow(body, many, flow, hue):
    """The face hues by so many hues that have a flow, and a hue for the face 0."""
    _check_body_and_number(body, many)
    if not _is_flow(body, many, flow):
        raise InvalidFlow("no flow of the body by this number")
    check_hue(hue, many - 1)
    places = edge_places(body)
    found = {0: hue}
    for ahead, face in tree_from_zero(body):
        found[face] = (found[ahead] + _step(flow, places, ahead, face)) % many
    return tuple([found[face] for face in range(len(body))])


def count_flows(body, many):
    """How many flows by a number there are."""
    _check_body_and_number(body, many)
    check_size(body, MOST_FOR_LOTS)
    # Each flow is that of as many face hues as there are hues for the face 0.
    return count_by(body, many) // many


def _check_body_and_number(body, many):
    """The checks of a body and of the number of its flows."""
    check_body(body)
    check_number(many, 1, MOST_HUES)


def _is_flow(body, many, value):
    """Whether any value is a flow of what is taken to be a body."""
    if not is_row(value, 3 * len(body) - 6, 1, many - 1):
        return False
    places = edge_places(body)
    for a, b, c in turned_corners(body):
        steps = [_step(value, places, one, other) for one, other in ((a, b), (b, c), (c, a))]
        if sum(steps) % many != 0:
            return False
    return True


def _step(flow, places, one, other):
    """What a flow tells of an edge, taken from the one face to the other one."""
    worth = flow[places[pair(one, other)]]
    return worth if one < other else -worth
