"""Exchanges of trees of edges, ways between trees, and the cheapest ones."""

from huesandrounds.bodies import check_body
from huesandrounds.checking import is_edge
from huesandrounds.errors import InvalidEdge, InvalidExchange
from huesandrounds.prices import check_prices
from huesandrounds.structure import corner_edges, corner_ties, edge_ends, edge_list, edge_places, rest_of, ways_from
from huesandrounds.trees import check_tree


def exchanges(body, tree):
    """The ascending list of all exchanges of a tree."""
    check_body(body)
    check_tree(body, tree)
    return _exchange_list(body, tree)


def _exchange_list(body, tree):
    """The ascending list of all exchanges of what is taken to be a tree."""
    return sorted([(out, into) for into in rest_of(body, tree) for out in ring_through(body, tree, into)])


def exchanged(body, tree, exchange):
    """The tree behind an exchange."""
    check_body(body)
    check_tree(body, tree)
    if not _is_exchange(body, tree, exchange):
        raise InvalidExchange("no exchange of the tree")
    return behind_exchange(tree, exchange)


def behind_exchange(tree, exchange):
    """The tree behind what is taken to be an exchange."""
    out, into = exchange
    return tuple(sorted([edge for edge in tree if edge != out] + [into]))


def _is_exchange(body, tree, value):
    """Whether any value is an exchange of what is taken to be a tree."""
    if not isinstance(value, tuple) or len(value) != 2:
        return False
    out, into = value
    if not is_edge(body, out) or not is_edge(body, into) or into in tree:
        return False
    return out in ring_through(body, tree, into)


def ring_of(body, tree, edge):
    """The ascending tuple of the edges of a tree that close a ring with an edge that it does not have."""
    check_body(body)
    check_tree(body, tree)
    if not is_edge(body, edge) or edge in tree:
        raise InvalidEdge("no edge outside the tree")
    return ring_through(body, tree, edge)


def ring_through(body, tree, edge):
    """What `ring_of` tells of what is taken to be a tree, and an edge that it does not have."""
    edges = edge_list(body)
    rows = corner_edges(body)
    near = corner_ties(body)
    links = {}
    for at in range(len(rows)):
        links[at] = [(edges[place], there) for place, there in zip(rows[at], near[at]) if edges[place] in tree]
    one, other = edge_ends(body)[edge_places(body)[edge]]
    return tuple(sorted(ways_from(links, one)[other]))


def way_between(body, one, other):
    """Any tuple of as few exchanges as lead from the one to the other tree."""
    check_body(body)
    check_tree(body, one)
    check_tree(body, other)
    way = []
    for into in other:
        if into not in one:
            # The other tree has not all edges of a ring, so one that it has not can go.
            out = [edge for edge in ring_through(body, one, into) if edge not in other][0]
            way.append((out, into))
            one = behind_exchange(one, (out, into))
    return tuple(way)


def least_tree(body, prices):
    """The first one, in ascending order, of the cheapest trees of edges."""
    check_body(body)
    check_prices(body, prices)
    edges = edge_list(body)
    ends = edge_ends(body)
    lots = tuple(range(2 * len(body) - 4))
    tree = []
    # Cheaper edges come first, and of like ones those that come first in order.
    for _, at in sorted([(price, at) for at, price in enumerate(prices)]):
        one, other = lots[ends[at][0]], lots[ends[at][1]]
        if one != other:
            tree.append(edges[at])
            lots = tuple([one if lot == other else lot for lot in lots])
    return tuple(sorted(tree))


def better(body, tree, prices):
    """The first exchange, in ascending order, that makes a tree cheaper, or None."""
    check_body(body)
    check_tree(body, tree)
    check_prices(body, prices)
    places = edge_places(body)
    for out, into in _exchange_list(body, tree):
        if prices[places[into]] < prices[places[out]]:
            return (out, into)
    return None
