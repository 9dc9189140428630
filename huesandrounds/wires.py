"""Flows through the edges of a body between the ends of one, the gap; levels of corners and places of faces."""

from math import gcd

from huesandrounds.basics import is_int
from huesandrounds.bodies import check_body
from huesandrounds.checking import check_edge
from huesandrounds.structure import edge_list, edge_places, edge_ways
from huesandrounds.webs import CORNERS, FACES, trees_apart, web_size, web_ties


def sizes(body, gap):
    """The pair of the width and the height with a gap."""
    check_body(body)
    check_edge(body, gap)
    width, found = _levels(body, gap)
    _, tail = _poles(body, gap)
    return (width, found[tail])


def _levels(body, gap):
    """The width with a gap, and the levels of all corners."""
    head, tail = _poles(body, gap)
    return _apart(body, CORNERS, gap, head, tail)


def _poles(body, gap):
    """The places of the first and the second pole, the head and the tail of the gap."""
    tail, head = edge_ways(body)[edge_places(body)[gap]]
    return (head, tail)


def _apart(body, on, gap, ground, place):
    """How many trees without the gap a web has, and for each place how many are parted with it on one side."""
    weights = [0 if edge == gap else 1 for edge in edge_list(body)]
    return trees_apart(web_ties(body, on), weights, web_size(body, on), ground, place)


def flows(body, gap):
    """The tuple of the flows of all edges with a gap."""
    check_body(body)
    check_edge(body, gap)
    return flow_row(body, gap)


def flow_row(body, gap):
    """The flows of all edges with what is taken to be a gap."""
    width, found = _levels(body, gap)
    drops = [found[head] - found[tail] for tail, head in edge_ways(body)]
    return tuple([width if edge == gap else drop for edge, drop in zip(edge_list(body), drops)])


def levels(body, gap):
    """The tuple of the levels of all corners with a gap."""
    check_body(body)
    check_edge(body, gap)
    _, found = _levels(body, gap)
    return found


def places(body, gap):
    """The tuple of the places of all faces with a gap."""
    check_body(body)
    check_edge(body, gap)
    _, found = _apart(body, FACES, gap, gap[0], gap[1])
    return found


def measure(body, gap):
    """The measure with a gap."""
    check_body(body)
    check_edge(body, gap)
    return _measure_of(flow_row(body, gap))


def _measure_of(row):
    """The greatest integer that divides all items of a row."""
    common = 0
    for item in row:
        common = gcd(common, item)
    return common


def least_flows(body, gap):
    """The tuple of the least flows of all edges with a gap."""
    check_body(body)
    check_edge(body, gap)
    return least_row(body, gap)


def least_row(body, gap):
    """The least flows of all edges with what is taken to be a gap."""
    row = flow_row(body, gap)
    common = _measure_of(row)
    return tuple([item // common for item in row])


def are_flows(body, gap, value):
    """Whether any value is a tuple of the least flows times one integer, above or below 0."""
    check_body(body)
    check_edge(body, gap)
    least = least_row(body, gap)
    if not isinstance(value, tuple) or len(value) != len(least) or not all([is_int(item) for item in value]):
        return False
    # The flow of the gap is not 0.
    at = edge_places(body)[gap]
    many = value[at] // least[at]
    return many != 0 and value == tuple([many * item for item in least])
