"""Rims of trees of edges, and the nets into which bodies are opened along them."""

from huesandrounds.basics import is_within
from huesandrounds.bodies import check_body
from huesandrounds.checking import check_face, check_size
from huesandrounds.errors import InvalidNet
from huesandrounds.forms import turn_list
from huesandrounds.ordering import behind
from huesandrounds.structure import corner_list, edge_ends, edge_list, edge_ways, pair, rest_of, turned_edges
from huesandrounds.trees import check_tree
from huesandrounds.webs import CORNERS, web_size

MOST_FOR_NETS = 6


def rim(body, tree):
    """The tuple of the corners from which one goes around a tree, one after another."""
    check_body(body)
    check_tree(body, tree)
    edges = edge_list(body)
    ends = edge_ends(body)
    trios = turned_edges(body)
    edge = edges.index(tree[0])
    corner = edge_ways(body)[edge][0]
    walk = []
    # One goes along each edge of the tree once in both ways.
    for _ in range(2 * len(tree)):
        walk.append(corner)
        corner = ends[edge][0] + ends[edge][1] - corner
        edge = [at for at in _behind_edge(trios[corner], edge) if edges[at] in tree][0]
    corners = corner_list(body)
    return tuple([corners[at] for at in walk])


def _behind_edge(trio, edge):
    """The edges of a corner in turn, beginning behind one of them, which comes last."""
    at = trio.index(edge) + 1
    return trio[at:] + trio[:at]


def net(body, tree, face):
    """The net of a tree from a face."""
    check_body(body)
    check_tree(body, tree)
    check_face(body, face)
    return _net_from(body, tree, face, body[face])


def _net_from(body, tree, face, ahead):
    """The net of a tree from a face, given those faces of its ring, in order, to which one goes on."""
    near = [other for other in ahead if pair(face, other) not in tree]
    return (face, tuple([_net_from(body, tree, other, behind(body[other], face, 1)) for other in near]))


def tree_of(body, value):
    """The tree of edges of which a value is a net."""
    check_body(body)
    ties = _ties_in(body, value)
    tree = rest_of(body, [pair(one, other) for one, other in ties])
    # All ties are of unlike faces around one another, so they are a tree of faces if they are enough.
    if len(ties) != len(body) - 1 or _net_from(body, tree, value[0], body[value[0]]) != value:
        raise InvalidNet("no net of the body")
    return tree


def _ties_in(body, value):
    """A list of all pairs of faces in a value of the form of a net, of which one has the other one behind it."""
    if not _is_knot(body, value):
        raise InvalidNet("not of the form of a net")
    met = {value[0]: True}
    queue = [value]
    ties = []
    at = 0
    while at < len(queue):
        here = queue[at]
        for item in here[1]:
            if not _is_knot(body, item) or item[0] in met or item[0] not in body[here[0]]:
                raise InvalidNet("not of the form of a net")
            met[item[0]] = True
            ties.append((here[0], item[0]))
            queue.append(item)
        at = at + 1
    return ties


def _is_knot(body, value):
    """Whether any value is a pair of a face and a tuple."""
    if not isinstance(value, tuple) or len(value) != 2:
        return False
    return is_within(value[0], 0, len(body) - 1) and isinstance(value[1], tuple)


def like_nets(body, one, other):
    """Whether two trees of edges have like nets."""
    check_body(body)
    check_tree(body, one)
    check_tree(body, other)
    return other in [_led(one, turn) for turn in turn_list(body)]


def _led(tree, turn):
    """The tree to which an own turn leads one."""
    return tuple(sorted([pair(turn[one], turn[other]) for one, other in tree]))


def count_nets(body):
    """How many trees there are at most of which no two have like nets."""
    check_body(body)
    check_size(body, MOST_FOR_NETS)
    turns = turn_list(body)
    return len({min([_led(tree, turn) for turn in turns]) for tree in _tree_list(body)})


def _tree_list(body):
    """A list of all trees of edges."""
    size = web_size(body, CORNERS)
    # Beside its edges each forest has, for each corner, the lot in which this is.
    forests = [((), tuple(range(size)))]
    for edge, ends in zip(edge_list(body), edge_ends(body)):
        longer = []
        for row, lots in forests:
            one, other = lots[ends[0]], lots[ends[1]]
            if one != other:
                longer.append((row + (edge,), tuple([one if lot == other else lot for lot in lots])))
        forests = forests + longer
    return [row for row, _ in forests if len(row) == size - 1]
