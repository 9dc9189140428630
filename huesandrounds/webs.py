"""Both webs of a body: its corners tied by the edges, and its faces; the body is taken to be one."""

from huesandrounds.errors import InvalidWeb
from huesandrounds.solving import adjugate, determinant, solve
from huesandrounds.structure import corner_ties, edge_ends, edge_list

CORNERS = "corners"
FACES = "faces"


def check_web(value):
    """Raises InvalidWeb for any value that is none of the two words."""
    if value not in (CORNERS, FACES):
        raise InvalidWeb("neither corners nor faces")


def web_size(body, on):
    """How many places a web has."""
    return 2 * len(body) - 4 if on == CORNERS else len(body)


def web_ties(body, on):
    """For each edge, in ascending order, the pair of the places that it ties."""
    return edge_ends(body) if on == CORNERS else edge_list(body)


def web_near(body, on):
    """For each place all places to which it is tied."""
    return corner_ties(body) if on == CORNERS else list(body)


def plain_weights(body):
    """The weight 1 for each edge."""
    return (1,) * (3 * len(body) - 6)


def balance(ties, weights, size, ground):
    """The rows that tell what each place gives and gets if places send by weights, without one place, the ground."""
    sums = {}
    for (one, other), weight in zip(ties, weights):
        for place, there in ((one, other), (other, one)):
            sums[(place, place)] = sums.get((place, place), 0) + weight
            sums[(place, there)] = sums.get((place, there), 0) - weight
    kept = [place for place in range(size) if place != ground]
    return [[sums.get((row, column), 0) for column in kept] for row in kept]


def sum_of_trees(ties, weights, size):
    """The sum, over all trees of ties, of the products of their weights."""
    return determinant(balance(ties, weights, size, 0))


def trees_apart(ties, weights, size, ground, place):
    """The sum over all trees, and for each place that over all parted ones in which it is with a place.

    A parted tree leads from each place just to this place, or just to another one, the ground.
    """
    column = [1 if there == place else 0 for there in range(size) if there != ground]
    total, found = solve(balance(ties, weights, size, ground), column)
    return (total, tuple(found[:ground] + [0] + found[ground:]))


def tally(body):
    """The number of trees of faces, and for each face a row that tells how their web answers to a push at it.

    The rows are those that undo what is told of the web without the face 0, times the number of trees.
    """
    total, rows = adjugate(balance(edge_list(body), plain_weights(body), len(body), 0))
    return (total, [[0] * len(body)] + [[0] + row for row in rows])


def push_between(rows, one, other):
    """How the web of the faces answers, at each, to a push from one face to another one."""
    return [item - more for item, more in zip(rows[one], rows[other])]
