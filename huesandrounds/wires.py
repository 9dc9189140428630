"""Flows through the edges of a body between the ends of one, the gap; levels of corners and places of faces."""

from math import gcd

from huesandrounds.basics import is_int
from huesandrounds.bodies import check_body
from huesandrounds.checking import check_edge
from huesandrounds.structure import edge_list, edge_places, edge_ways
from huesandrounds.webs import CORNERS, FACES, plain_weights, trees_apart, web_size, web_ties


def sizes(body, gap):
    """The pair of the width and the height with a gap."""
    check_body(body)
    check_edge(body, gap)
    width, found = levels_by(body, gap, plain_weights(body))
    # The second pole is the one with the greatest level, since it is always on its own side.
    return (width, max(found))


def levels_by(body, gap, thick):
    """The width with a gap by thicknesses, and the levels of all corners."""
    tail, head = edge_ways(body)[edge_places(body)[gap]]
    return _apart(body, CORNERS, gap, thick, head, tail)


def _apart(body, on, gap, weights, ground, place):
    """The trees without the gap on a web, and for each place those parted with it on one side, all by weights."""
    left = [0 if edge == gap else weight for edge, weight in zip(edge_list(body), weights)]
    return trees_apart(web_ties(body, on), left, web_size(body, on), ground, place)


def flows(body, gap):
    """The tuple of the flows of all edges with a gap."""
    check_body(body)
    check_edge(body, gap)
    return flow_row(body, gap)


def flow_row(body, gap):
    """The flows of all edges with what is taken to be a gap."""
    found = place_row(body, gap)
    return tuple([found[greater] - found[lesser] for lesser, greater in edge_list(body)])


def levels(body, gap):
    """The tuple of the levels of all corners with a gap."""
    check_body(body)
    check_edge(body, gap)
    _, found = levels_by(body, gap, plain_weights(body))
    return found


def places(body, gap):
    """The tuple of the places of all faces with a gap."""
    check_body(body)
    check_edge(body, gap)
    return place_row(body, gap)


def place_row(body, gap):
    """The places of all faces with what is taken to be a gap."""
    _, found = _apart(body, FACES, gap, plain_weights(body), gap[0], gap[1])
    return found


def measure(body, gap):
    """The measure with a gap."""
    check_body(body)
    check_edge(body, gap)
    return measure_of(flow_row(body, gap))


def measure_of(row):
    """The greatest integer that divides all items of a row."""
    common = 0
    for item in row:
        common = gcd(common, item)
    return common


def least_flows(body, gap):
    """The tuple of the least flows of all edges with a gap."""
    check_body(body)
    check_edge(body, gap)
    return least_row(body, gap)


def least_row(body, gap):
    """The least flows of all edges with what is taken to be a gap."""
    row = flow_row(body, gap)
    common = measure_of(row)
    return tuple([item // common for item in row])


def are_flows(body, gap, value):
    """Whether any value is a tuple of the least flows times one integer, above or below 0."""
    check_body(body)
    check_edge(body, gap)
    least = least_row(body, gap)
    if not isinstance(value, tuple) or len(value) != len(least) or not all([is_int(item) for item in value]):
        return False
    # The flow of the gap is not 0.
    at = edge_places(body)[gap]
    many = value[at] // least[at]
    return many != 0 and value == tuple([many * item for item in least])
