"""Bodies put together at corners and parted at belts, and what becomes of their numbers."""

from huesandrounds.basics import is_row
from huesandrounds.bodies import MOST_FACES, belt_list, check_body
from huesandrounds.checking import check_corner, check_number, check_size
from huesandrounds.errors import InvalidBelt, TooMany
from huesandrounds.extending import hues_from_zero
from huesandrounds.facehues import MOST_FOR_LOTS, MOST_HUES, count_by
from huesandrounds.forms import plain_form
from huesandrounds.pairings import pairings_by
from huesandrounds.rounds import round_list
from huesandrounds.structure import begun, followers, lumps, rings_of, turned_by_corner


def put_together(one, corner, other, last):
    """Both bodies put together at a corner of each."""
    _check_both(one, corner, other, last)
    return joined(one, corner, other, last)


def _check_both(one, corner, other, last):
    """The checks of two bodies, and of a corner of each."""
    check_body(one)
    check_corner(one, corner)
    check_body(other)
    check_corner(other, last)


def joined(one, corner, other, last):
    """What `put_together` tells of what is taken to be right; TooMany is raised for too many faces."""
    if len(one) + len(other) - 3 > MOST_FACES:
        raise TooMany(MOST_FACES)
    a, b, c = turned_by_corner(one)[corner]
    x, y, z = turned_by_corner(other)[last]
    name = {x: a, y: c, z: b}
    for face in range(len(other)):
        if face not in name:
            name[face] = len(one) + len(name) - 3
    own = {face: face for face in range(len(one))}
    follow = {}
    for rest, names in ((_without_turns(one, ((a, b), (b, c), (c, a))), own),
                        (_without_turns(other, ((x, y), (y, z), (z, x))), name)):
        for first, second in rest:
            follow[(names[first], names[second])] = names[rest[(first, second)]]
    return rings_of(follow, len(one) + len(other) - 3)


def _without_turns(body, struck):
    """The followers in a body, but for those behind some pairs of faces."""
    follow = followers(body)
    return {sides: follow[sides] for sides in follow if sides not in struck}


def parted(body, belt):
    """The pair of both parts of a body that is parted at a belt."""
    check_body(body)
    if not is_row(belt, 3, 0, len(body) - 1) or belt not in belt_list(body):
        raise InvalidBelt("no belt of the body")
    return parts_at(body, belt)


def parts_at(body, belt):
    """What `parted` tells of what is taken to be a belt."""
    sides = lumps(body, [face not in belt for face in range(len(body))])
    return tuple([_within(body, tuple(sorted(belt + side))) for side in sides])


def _within(body, kept):
    """The body of some faces, numbered anew in their order, all others taken out of the rings."""
    number = {}
    for at, face in enumerate(kept):
        number[face] = at
    return tuple([begun(tuple([number[item] for item in body[face] if item in number])) for face in kept])


def left_out(body, corner):
    """How many rounds leave out each of the edges of a corner, in ascending order of these."""
    check_body(body)
    check_corner(body, corner)
    return _left_counts(body, corner)


def _left_counts(body, corner):
    """What `left_out` tells of what is taken to be a corner."""
    a, b, c = corner
    tours = round_list(body)
    return tuple([len([tour for tour in tours if edge not in tour]) for edge in ((a, b), (a, c), (b, c))])


def joined_counts(one, corner, other, last):
    """How many edge hues, signs, rounds and pairings two bodies put together would have."""
    _check_both(one, corner, other, last)
    hues = joined_hues(one, other)
    met, found = pairings_by(one, corner), pairings_by(other, last)
    several = _products(one, corner, met, other, last, found) + met[3] * found[3]
    return (hues, hues // 3, joined_rounds(one, corner, other, last), several)


def joined_hues(one, other):
    """How many edge hues two bodies put together would have."""
    return len(hues_from_zero(one)) * len(hues_from_zero(other)) // 6


def joined_rounds(one, corner, other, last):
    """How many rounds two bodies put together would have."""
    return _products(one, corner, _left_counts(one, corner), other, last, _left_counts(other, last))


def _products(one, corner, met, other, last, found):
    """The sum of the products of what is told of the edges of two corners that come together.

    Of each corner it is told in ascending order of its edges.
    """
    _, b, c = turned_by_corner(one)[corner]
    _, y, z = turned_by_corner(other)[last]
    # The edge of the least face and b comes to that of the least face and z.
    order = (1, 0, 2) if (b < c) == (y < z) else (0, 1, 2)
    return sum([met[at] * found[place] for at, place in enumerate(order)])


def joined_face_hues(one, other, many):
    """How many face hues by so many hues two bodies put together would have."""
    check_body(one)
    check_body(other)
    check_number(many, 0, MOST_HUES)
    check_size(one, MOST_FOR_LOTS)
    check_size(other, MOST_FOR_LOTS)
    if many < 3:
        return 0
    return count_by(one, many) * count_by(other, many) // (many * (many - 1) * (many - 2))


def parts(body):
    """The ascending list of the plain forms of all bodies without belts into which a body can be parted."""
    check_body(body)
    return sorted([plain_form(part) for part in _last_parts(body)])


def _last_parts(body):
    """A list of all bodies without belts into which what is taken to be a body can be parted."""
    found = belt_list(body)
    if not found:
        return [body]
    return [last for part in parts_at(body, found[0]) for last in _last_parts(part)]
