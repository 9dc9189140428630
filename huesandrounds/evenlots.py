"""Even lots of edges: the rims of lots of faces, and the rings in them."""

from huesandrounds.bodies import check_body
from huesandrounds.checking import check_faces, check_number, check_size, is_edge_row
from huesandrounds.edgehues import rings_outside
from huesandrounds.errors import InvalidEven
from huesandrounds.extending import hues_from_zero
from huesandrounds.parity import even_marks, many_in, marked_edges
from huesandrounds.structure import corner_edges, edge_list, pair, tree_from_zero

MOST_FOR_LOTS = 9


def is_even(body, value):
    """Whether any value is an even lot of a body."""
    check_body(body)
    return is_even_row(body, value)


def is_even_row(body, value):
    """Whether any value is an even lot of what is taken to be a body."""
    if not is_edge_row(body, value):
        return False
    kept = [edge in value for edge in edge_list(body)]
    return all([len([at for at in row if kept[at]]) % 2 == 0 for row in corner_edges(body)])


def check_even(body, value):
    """Raises InvalidEven for any value that is no even lot of the body."""
    if not is_even_row(body, value):
        raise InvalidEven("no even lot of the body")


def rim(body, faces):
    """The rim of a lot of faces."""
    check_body(body)
    check_faces(body, faces)
    return tuple([edge for edge in edge_list(body) if (edge[0] in faces) != (edge[1] in faces)])


def faces_of(body, lot):
    """The lot of faces without the face 0 of which an even lot is the rim."""
    check_body(body)
    check_even(body, lot)
    inside = {0: False}
    for ahead, face in tree_from_zero(body):
        inside[face] = inside[ahead] != (pair(ahead, face) in lot)
    return tuple([face for face in range(len(body)) if inside[face]])


def rings_of(body, lot):
    """The ascending list of all rings of edges in an even lot."""
    check_body(body)
    check_even(body, lot)
    return rings_outside(body, [edge not in lot for edge in edge_list(body)])


def even_lots(body):
    """The ascending list of all even lots."""
    check_body(body)
    check_size(body, MOST_FOR_LOTS)
    return even_list(body)


def even_list(body):
    """The ascending list of all even lots of what is taken to be a body."""
    return marked_edges(body, even_marks(body))


def even_at(body, index):
    """The even lot with an index in the ascending list of all."""
    check_body(body)
    check_number(index, 0, (1 << (len(body) - 1)) - 1)
    check_size(body, MOST_FOR_LOTS)
    return even_list(body)[index]


def even_index(body, lot):
    """The index of an even lot in the ascending list of all."""
    check_body(body)
    check_even(body, lot)
    check_size(body, MOST_FOR_LOTS)
    return even_list(body).index(lot)


def even_sizes(body):
    """How many even lots have 0, 1, 2 and so on up to all edges."""
    check_body(body)
    return tuple(size_counts(body))


def size_counts(body):
    """The list of how many even lots of what is taken to be a body have 0, 1, 2 and so on edges."""
    found = [0 for _ in range(3 * len(body) - 5)]
    for mark in even_marks(body):
        many = many_in(mark)
        found[many] = found[many] + 1
    return found


def count_covers(body):
    """How many ordered pairs of even lots have all edges together."""
    check_body(body)
    # The one has all edges of the hues 0 and 1, the other one those of 1 and 2, and all edge hues come so.
    return len(hues_from_zero(body))
