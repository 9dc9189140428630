"""Signs of the corners, and the edge hues that have them."""

from huesandrounds.basics import is_sign_row
from huesandrounds.bodies import check_body
from huesandrounds.checking import check_hue, check_size
from huesandrounds.edgehues import chain_at, check_hues, checked_place, hue_list
from huesandrounds.errors import InvalidSigns
from huesandrounds.extending import hues_from_zero
from huesandrounds.structure import corner_edges, corner_list, turned_edges

MOST_FOR_SIGNS = 9


def is_signs(body, value):
    """Whether any value is signs of a body."""
    check_body(body)
    return are_signs(body, value)


def are_signs(body, value):
    """Whether any value is signs of what is taken to be a body."""
    if not is_sign_row(value, 2 * len(body) - 4):
        return False
    return all([total % 3 == 0 for total in sums_at_faces(body, value)])


def check_signs(body, value):
    """Raises InvalidSigns for any value that is no signs of the body."""
    if not are_signs(body, value):
        raise InvalidSigns("no signs of the body")


def count_signs(body):
    """How many signs there are."""
    check_body(body)
    # Signs and a hue for the first edge tell edge hues.
    return len(hues_from_zero(body)) // 3


def signs_of(body, hues):
    """The signs of edge hues."""
    check_body(body)
    check_hues(body, hues)
    return signs_by(body, hues)


def signs_by(body, hues):
    """The signs of what is taken to be edge hues."""
    return tuple([1 if (hues[after] - hues[first]) % 3 == 1 else -1 for first, after, _ in turned_edges(body)])


def hues_of(body, signs, hue):
    """The edge hues that have some signs, and a hue for the first edge."""
    check_body(body)
    check_signs(body, signs)
    check_hue(hue, 2)
    trios = turned_edges(body)
    found = {0: hue}
    while len(found) < 3 * len(body) - 6:
        for row, sign in zip(trios, signs):
            for at in range(3):
                if row[at - 1] in found and row[at] not in found:
                    found[row[at]] = (found[row[at - 1]] + sign) % 3
    return tuple([found[at] for at in range(len(found))])


def all_signs(body):
    """The ascending list of all signs."""
    check_body(body)
    check_size(body, MOST_FOR_SIGNS)
    return sorted({signs_by(body, hues) for hues in hue_list(body)})


def face_sums(body, signs):
    """The sums of the signs of all corners that a face has, for each face."""
    check_body(body)
    check_signs(body, signs)
    return sums_at_faces(body, signs)


def sums_at_faces(body, row):
    """The sums of the numbers of all corners that a face has, for each face."""
    places = corner_list(body)
    return tuple([sum([row[at] for at in range(len(row)) if face in places[at]]) for face in range(len(body))])


def corners_on(body, hues, edge, hue):
    """The ascending tuple of all corners on the chain of an edge's own hue and another one that has the edge."""
    linked = chain_at(body, hues, checked_place(body, hues, edge, hue), hue)
    on_chain = [any([item in linked for item in row]) for row in corner_edges(body)]
    return tuple([corner for corner, met in zip(corner_list(body), on_chain) if met])
