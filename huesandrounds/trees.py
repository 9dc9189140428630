"""Trees of edges and of faces: which are such, how many there are, and which one stands where."""

from math import gcd

from huesandrounds.arrows import check_weights
from huesandrounds.bodies import check_body
from huesandrounds.checking import check_edge, check_edges, check_number, is_edge_row
from huesandrounds.errors import InvalidTree
from huesandrounds.structure import edge_list, lumps, rest_of
from huesandrounds.webs import (CORNERS, FACES, check_web, plain_weights, push_between, sum_of_trees, tally, web_size,
                                web_ties)


def is_edge_tree(body, value):
    """Whether any value is a tree of edges of a body."""
    check_body(body)
    return is_tree(body, CORNERS, value)


def is_face_tree(body, value):
    """Whether any value is a tree of faces of a body."""
    check_body(body)
    return is_tree(body, FACES, value)


def is_tree(body, on, value):
    """Whether any value is a tree on a web of what is taken to be a body."""
    if not isinstance(value, tuple) or len(value) != web_size(body, on) - 1 or not is_edge_row(body, value):
        return False
    return len(_lots_tied(body, on, value)) == 1


def _lots_tied(body, on, some):
    """The lots into which the places of a web fall that are tied by some edges."""
    near = [() for _ in range(web_size(body, on))]
    for edge, ends in zip(edge_list(body), web_ties(body, on)):
        if edge in some:
            one, other = ends
            near[one] = near[one] + (other,)
            near[other] = near[other] + (one,)
    return lumps(near, [True for _ in near])


def check_tree(body, value):
    """Raises InvalidTree for any value that is no tree of edges of the body."""
    if not is_tree(body, CORNERS, value):
        raise InvalidTree("no tree of edges of the body")


def rest(body, some):
    """The rest of an ascending tuple of edges."""
    check_body(body)
    check_edges(body, some)
    return rest_of(body, some)


def count_trees(body, on):
    """How many trees of edges there are, or of faces."""
    check_body(body)
    check_web(on)
    return sum_of_trees(web_ties(body, on), plain_weights(body), web_size(body, on))


def trees_with(body, inside, outside):
    """How many trees of edges have all of some edges, and none of others."""
    check_body(body)
    check_edges(body, inside)
    check_edges(body, outside)
    return _count_with(body, inside, outside)


def _count_with(body, inside, outside):
    """What `trees_with` tells of what is taken to be edges."""
    if any([edge in outside for edge in inside]):
        return 0
    # The rests are counted, trees of faces, which have all of the latter and none of the former.
    lots = _lots_tied(body, FACES, outside)
    if len(lots) != web_size(body, FACES) - len(outside):
        return 0
    # Places that edges of the tree tie are as one.
    lot_of = {}
    for at, lot in enumerate(lots):
        for place in lot:
            lot_of[place] = at
    ties = [(lot_of[one], lot_of[other]) for one, other in web_ties(body, FACES)]
    weights = [0 if edge in inside else 1 for edge in edge_list(body)]
    return sum_of_trees(ties, weights, len(lots))


def share(body, edge):
    """The number of trees of edges with an edge, divided by that of all, as a fraction (top, below)."""
    check_body(body)
    check_edge(body, edge)
    having, every = _count_with(body, (edge,), ()), _count_with(body, (), ())
    common = gcd(having, every)
    return (having // common, every // common)


def tree_at(body, index):
    """The tree of edges with an index in the ascending list of all."""
    check_body(body)
    total, rows = tally(body)
    check_number(index, 0, total - 1)
    tree = []
    for one, other in edge_list(body):
        push = push_between(rows, one, other)
        # What differs at both faces is the number of trees of faces that have their edge.
        having = total - push[one] + push[other]
        taken = index < having
        if taken:
            tree.append((one, other))
        else:
            index = index - having
        if 0 < having < total:
            total, rows = _behind_edge(total, rows, push, having, taken)
    return tuple(tree)


def index_of(body, tree):
    """The index of a tree of edges in the ascending list of all."""
    check_body(body)
    check_tree(body, tree)
    index = 0
    total, rows = tally(body)
    for one, other in edge_list(body):
        push = push_between(rows, one, other)
        having = total - push[one] + push[other]
        taken = (one, other) in tree
        if not taken:
            index = index + having
        if 0 < having < total:
            total, rows = _behind_edge(total, rows, push, having, taken)
    return index


def _behind_edge(total, rows, push, having, taken):
    """The number of trees and the rows if an edge, which not all trees have or lack, is taken or is not."""
    # An edge of the tree is gone from the faces' web; any other one ties its faces to be as one.
    fresh, sign = (having, 1) if taken else (total - having, -1)
    return (fresh, [[(fresh * item + sign * own * more) // total for item, more in zip(row, push)]
                    for own, row in zip(push, rows)])


def tree_sum(body, weights):
    """The sum, over all trees of edges, of the products of the weights of their edges."""
    check_body(body)
    check_weights(body, weights)
    return sum_of_trees(web_ties(body, CORNERS), weights, web_size(body, CORNERS))
