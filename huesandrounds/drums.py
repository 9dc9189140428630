"""Drums, and what is told of drums of very many sides."""

from huesandrounds.basics import is_within
from huesandrounds.checking import check_number
from huesandrounds.errors import InvalidSides

LEAST_SIDES = 3
MOST_BUILT = 10
MOST_SIDES = 10 ** 30
MOST_NUMBER = 10 ** 12


def drum(sides):
    """The drum of so many sides."""
    _check_sides(sides, MOST_BUILT)
    last = sides + 1
    belt = [(0, sides if face == 1 else face - 1, last, 1 if face == sides else face + 1) for face in range(1, last)]
    ring = tuple(range(1, last))
    return (ring,) + tuple(belt) + (ring[:1] + ring[:0:-1],)


def _check_sides(value, most):
    """Raises InvalidSides for any value that is no integer from 3 to so many."""
    if not is_within(value, LEAST_SIDES, most):
        raise InvalidSides(f"no sides from {LEAST_SIDES} to {most}")


def _check_both(sides, modulus):
    """The checks of sides and of a modulus."""
    _check_sides(sides, MOST_SIDES)
    check_number(modulus, 1, MOST_NUMBER)


def drum_rounds(sides):
    """How many rounds a drum has."""
    _check_sides(sides, MOST_SIDES)
    # A round leaves out both end faces' edges of one side, and all edges between sides but the two of this one; or,
    # if the sides are even in number, it takes all edges between sides, and goes from end to end by turns.
    return sides + 2 if sides % 2 == 0 else sides


def drum_edge_hues(sides, modulus):
    """What the number of the edge hues of a drum leaves by a modulus."""
    _check_both(sides, modulus)
    # Each side has the same hue at both end faces, going round as a ring by three hues; or each has two unlike ones,
    # the same two all the way, which change their places from side to side.
    unlike = 6 if sides % 2 == 0 else 0
    return (_ring_hues(sides, 3, modulus) + unlike) % modulus


def drum_face_hues(sides, many, modulus):
    """What the number of the face hues of a drum by so many hues leaves by a modulus."""
    _check_sides(sides, MOST_SIDES)
    check_number(many, 0, MOST_NUMBER)
    check_number(modulus, 1, MOST_NUMBER)
    # Both end faces have the same hue, or two; the others are a ring by all other hues.
    same = many * _ring_hues(sides, many - 1, modulus)
    unlike = many * (many - 1) * _ring_hues(sides, many - 2, modulus)
    return (same + unlike) % modulus


def _ring_hues(sides, many, modulus):
    """What the number of hues of so many things in a ring, neighbours unlike, leaves by a modulus.

    It is that of a polynomial in many, which may be below 0 here.
    """
    return _power(many - 1, sides, modulus) + (many - 1) * (1 if sides % 2 == 0 else -1)


def drum_pairings(sides, modulus):
    """What the number of the pairings of a drum leaves by a modulus."""
    _check_both(sides, modulus)
    # A side's edges at both end faces are taken together, and no two sides beside one another: so there are as many as
    # lots of places apart in a ring, the numbers of Lucas. But if no edge between sides is taken, and these are even
    # in number, each end face can go its own way, so there are two more.
    twice = _row_item((1, 1), (2, 1), sides, modulus)
    return (twice + (2 if sides % 2 == 0 else 0)) % modulus


def drum_trees(sides, modulus):
    """What the number of the trees of edges of a drum leaves by a modulus."""
    _check_both(sides, modulus)
    # Known in print: the sides times the half of (2 + w) ** sides + (2 - w) ** sides - 2, with w * w = 3.
    half = _row_item((4, -1), (1, 2), sides, modulus)
    return sides * (half - 1) % modulus


def _power(number, exponent, modulus):
    """What a power leaves by a modulus."""
    worth = 1 % modulus
    while exponent > 0:
        if exponent % 2 == 1:
            worth = worth * number % modulus
        number = number * number % modulus
        exponent = exponent // 2
    return worth


def _row_item(times, first, index, modulus):
    """What the item with an index leaves by a modulus, in a row of which the first two are told.

    Each other one is the last one ahead of it, and the one ahead of this, each so many times, together.
    """
    worth, step = (1, 0, 0, 1), times + (1, 0)
    while index > 0:
        if index % 2 == 1:
            worth = _product(worth, step, modulus)
        step = _product(step, step, modulus)
        index = index // 2
    return (worth[2] * first[1] + worth[3] * first[0]) % modulus


def _product(one, other, modulus):
    """The product of two squares of four numbers, by a modulus."""
    a, b, c, d = one
    p, q, r, s = other
    rows = (a * p + b * r, a * q + b * s, c * p + d * r, c * q + d * s)
    return tuple([item % modulus for item in rows])
