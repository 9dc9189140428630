"""Bodies: which values are bodies, and what is told of one at once."""

from huesandrounds.basics import is_ascending, is_row
from huesandrounds.errors import InvalidBody
from huesandrounds.structure import corner_list, edge_list, followers, lumps

LEAST_FACES = 4
MOST_FACES = 12


def is_body(value):
    """Whether any value is a body."""
    if not isinstance(value, tuple) or not LEAST_FACES <= len(value) <= MOST_FACES:
        return False
    if not all([_is_ring(value[face], face, len(value)) for face in range(len(value))]):
        return False
    if sum([len(ring) for ring in value]) != 6 * len(value) - 12:
        return False
    return _turns_agree(value) and len(lumps(value, [True for _ in value])) == 1


def check_body(value):
    """Raises InvalidBody for any value that is no body."""
    if not is_body(value):
        raise InvalidBody("no body")


def edges(body):
    """The ascending list of all edges."""
    check_body(body)
    return edge_list(body)


def corners(body):
    """The ascending list of all corners."""
    check_body(body)
    return corner_list(body)


def counts_of(body):
    """How many faces have three sides, four sides, and so on up to the greatest number."""
    check_body(body)
    sides = [len(ring) for ring in body]
    return tuple([sides.count(many) for many in range(3, max(sides) + 1)])


def belts(body):
    """The ascending list of all belts."""
    check_body(body)
    return belt_list(body)


def belt_list(body):
    """The ascending list of all belts of what is taken to be a body."""
    meeting = corner_list(body)
    rows = [(a, b, c) for a, b in edge_list(body) for c in sorted(body[b]) if b < c and c in body[a]]
    return [row for row in rows if row not in meeting]


def _is_ring(value, face, faces):
    """Whether a value has the form of a ring of a face, whatever the others are."""
    if not isinstance(value, tuple) or not 3 <= len(value) < faces:
        return False
    if not is_row(value, len(value), 0, faces - 1) or face in value:
        return False
    return is_ascending(tuple(sorted(value))) and value[0] == min(value)


def _turns_agree(rings):
    """Whether all three faces tell of each corner that they meet in it, turning the same way."""
    follow = followers(rings)
    for one, other in follow:
        third = follow[(one, other)]
        if follow.get((other, third)) != one or follow.get((third, one)) != other:
            return False
    return True
