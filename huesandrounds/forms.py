"""Renumbered bodies, their plain forms and own turns, and all bodies of few faces."""

from huesandrounds.basics import is_int
from huesandrounds.bodies import LEAST_FACES, check_body
from huesandrounds.checking import check_face, check_number
from huesandrounds.cutting import cut_at, spot_list
from huesandrounds.errors import InvalidFace, InvalidTurning
from huesandrounds.ordering import in_new_order, mirror_of, new_order

FOUR_FACES = ((1, 2, 3), (0, 3, 2), (0, 1, 3), (0, 2, 1))
MOST_LISTED = 7


def renumbered(body, start, after, turning):
    """The body renumbered from two faces that are around one another, in a way of turning."""
    check_body(body)
    check_face(body, start)
    check_face(body, after)
    if after not in body[start]:
        raise InvalidFace("two faces that are not around one another")
    if not is_int(turning) or turning not in (1, -1):
        raise InvalidTurning("neither 1 nor -1")
    return in_new_order(body, start, after, turning)


def plain(body):
    """The plain form of a body."""
    check_body(body)
    return plain_form(body)


def mirrored(body):
    """The body with all rings the other way round."""
    check_body(body)
    return mirror_of(body)


def alike(one, other):
    """Whether two bodies are alike."""
    check_body(one)
    check_body(other)
    return plain_form(one) == plain_form(other)


def own_turns(body):
    """The ascending list of all own turns."""
    check_body(body)
    return turn_list(body)


def is_own_mirror(body):
    """Whether some own turn makes of the body what `mirrored` tells."""
    check_body(body)
    first = in_new_order(body, 0, body[0][0], 1)
    starts = _starts(body, _sides_at(body, 0, body[0][0]))
    return first in [in_new_order(body, face, other, -1) for face, other in starts]


def bodies(faces):
    """The ascending list of all plain forms of bodies with so many faces."""
    check_number(faces, LEAST_FACES, MOST_LISTED)
    return form_list(faces)


def form_list(faces):
    """What `bodies` tells of a number that is taken to be right."""
    forms = [FOUR_FACES]
    for _ in range(LEAST_FACES, faces):
        # Each body is healed to one with a face less, so cuts lead to all of them.
        forms = sorted({plain_form(cut_at(body, spot)) for body in forms for spot in spot_list(body)})
    return forms


def plain_form(body):
    """The plain form of what is taken to be a body."""
    # The first ring has as many numbers as the first face has sides, 1, 2, 3 and so on, and the second one those of
    # the second face, all but the last one rising from these: the fewest sides make the least rings.
    least = min([_sides_at(body, face, other) for face in range(len(body)) for other in body[face]])
    starts = _starts(body, least)
    return min([in_new_order(body, face, other, turning) for face, other in starts for turning in (1, -1)])


def turn_list(body):
    """The ascending list of all own turns of what is taken to be a body."""
    first = new_order(body, 0, body[0][0], 1)
    form = in_new_order(body, 0, body[0][0], 1)
    found = []
    for face, other in _starts(body, _sides_at(body, 0, body[0][0])):
        for turning in (1, -1):
            if in_new_order(body, face, other, turning) == form:
                found.append(_led(first, new_order(body, face, other, turning)))
    return sorted(found)


def _sides_at(body, face, other):
    """The pair of the sides of two faces."""
    return (len(body[face]), len(body[other]))


def _starts(body, sides):
    """A list of all pairs of two faces of some sides that are around one another."""
    pairs = [(face, other) for face in range(len(body)) for other in body[face]]
    return [(face, other) for face, other in pairs if _sides_at(body, face, other) == sides]


def _led(start, order):
    """The tuple that has, for each face of the one order, the face at its place in the other order."""
    aims = [0 for _ in start]
    for face, aim in zip(start, order):
        aims[face] = aim
    return tuple(aims)
