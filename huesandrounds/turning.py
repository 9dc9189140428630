"""Turning faces in pairings, and the lots into which pairings fall by it."""

from huesandrounds.bodies import check_body
from huesandrounds.checking import check_face
from huesandrounds.errors import NoTurn
from huesandrounds.lines import check_pairing, pairing_list
from huesandrounds.structure import count_tied, pair, ways_from


def turnable(body, pairing):
    """The ascending list of all faces that can be turned in a pairing."""
    check_body(body)
    check_pairing(body, pairing)
    return [face for face, _ in _turns(body, pairing)]


def face_turned(body, pairing, face):
    """The pairing in which a face is turned."""
    check_body(body)
    check_pairing(body, pairing)
    check_face(body, face)
    if not _can_turn(body, pairing, face):
        raise NoTurn("a face that cannot be turned")
    return _turned(body, pairing, face)


def pairing_lots(body):
    """How many lots the pairings of a body are."""
    check_body(body)
    return count_tied({row: [other for _, other in _turns(body, row)] for row in pairing_list(body)})


def lot_of(body, pairing):
    """The ascending list of all pairings of the lot of one."""
    check_body(body)
    check_pairing(body, pairing)
    return sorted(list(_ways_from(body, pairing)))


def turns_between(body, pairing, aim):
    """Any tuple of as few faces as lead from the one to the other pairing, turned one after another, or None."""
    check_body(body)
    check_pairing(body, pairing)
    check_pairing(body, aim)
    return _ways_from(body, pairing).get(aim)


def _ways_from(body, pairing):
    """For all pairings of the lot of one, a tuple of as few faces as lead there."""
    return ways_from({row: _turns(body, row) for row in pairing_list(body)}, pairing)


def _turns(body, pairing):
    """A list of all faces that can be turned, in ascending order, each with the pairing behind it."""
    faces = [face for face in range(len(body)) if _can_turn(body, pairing, face)]
    return [(face, _turned(body, pairing, face)) for face in faces]


def _can_turn(body, pairing, face):
    """Whether the edges of a face are by turns of a pairing and not of it."""
    kept = [edge in pairing for edge in _edges_around(body, face)]
    return all([kept[at] != kept[at - 1] for at in range(len(kept))])


def _turned(body, pairing, face):
    """The pairing in which a face, which can be turned, is turned."""
    around = _edges_around(body, face)
    others = [edge for edge in pairing if edge not in around]
    return tuple(sorted(others + [edge for edge in around if edge not in pairing]))


def _edges_around(body, face):
    """The list of the edges of a face, in the order of its ring."""
    return [pair(face, other) for other in body[face]]
