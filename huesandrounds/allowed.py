"""Face hues that go with allowed hues, and denials of allowed hues."""

from huesandrounds.basics import is_ascending, is_int, is_row, is_within
from huesandrounds.bodies import check_body
from huesandrounds.errors import InvalidAllowed
from huesandrounds.extending import face_hues_within
from huesandrounds.structure import replaced

# A face that has no hue yet.
BARE = -1


def is_allowed(body, value):
    """Whether any value is allowed hues of a body."""
    check_body(body)
    return are_allowed(body, value)


def are_allowed(body, value):
    """Whether any value is allowed hues of what is taken to be a body."""
    if not isinstance(value, tuple) or len(value) != len(body):
        return False
    return all([_is_hue_row(item) for item in value])


def _is_hue_row(value):
    """Whether any value is an ascending tuple of integers from 0 to 3."""
    return isinstance(value, tuple) and is_row(value, len(value), 0, 3) and is_ascending(value)


def check_allowed(body, value):
    """Raises InvalidAllowed for any value that is no allowed hues of the body."""
    if not are_allowed(body, value):
        raise InvalidAllowed("no allowed hues of the body")


def hues_with(body, allowed):
    """Any face hues that go with allowed hues, or None."""
    check_body(body)
    check_allowed(body, allowed)
    return min(face_hues_within(body, allowed), default=None)


def count_with(body, allowed):
    """How many face hues go with allowed hues."""
    check_body(body)
    check_allowed(body, allowed)
    return len(face_hues_within(body, allowed))


def denial(body, allowed):
    """Any denial of allowed hues, or None."""
    check_body(body)
    check_allowed(body, allowed)
    if face_hues_within(body, allowed):
        return None
    return _denial_behind(body, allowed, (BARE,) * len(body))


def _denial_behind(body, allowed, lay):
    """A denial behind a lay, given as the hue of each face; there must be one."""
    # The face with the fewest hues keeps the denial small.
    bare = [face for face in range(len(body)) if lay[face] == BARE]
    _, face = min([(len(_open_hues(body, allowed, lay, item)), item) for item in bare])
    free = _open_hues(body, allowed, lay, face)
    if not free:
        return face
    return (face, tuple([_denial_behind(body, allowed, replaced(lay, face, hue)) for hue in free]))


def _open_hues(body, allowed, lay, face):
    """The ascending list of the hues that a face can have behind a lay."""
    near = [lay[other] for other in body[face]]
    return [hue for hue in allowed[face] if hue not in near]


def is_denial(body, allowed, value):
    """Whether any value is a denial of allowed hues."""
    check_body(body)
    check_allowed(body, allowed)
    return _denies(body, allowed, (BARE,) * len(body), value)


def _denies(body, allowed, lay, value):
    """Whether any value is a denial behind a lay."""
    if is_int(value):
        return _is_bare(body, lay, value) and not _open_hues(body, allowed, lay, value)
    if not isinstance(value, tuple) or len(value) != 2 or not _is_bare(body, lay, value[0]):
        return False
    face, behind = value
    free = _open_hues(body, allowed, lay, face)
    if not free or not isinstance(behind, tuple) or len(behind) != len(free):
        return False
    for hue, item in zip(free, behind):
        if not _denies(body, allowed, replaced(lay, face, hue), item):
            return False
    return True


def _is_bare(body, lay, value):
    """Whether any value is a face that is not in a lay."""
    return is_within(value, 0, len(body) - 1) and lay[value] == BARE
