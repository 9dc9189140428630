"""Bodies and odd values that the tests share."""

import random

from huesandrounds.benches import Bench
from huesandrounds.bodies import corners, edges
from huesandrounds.cutting import cut, spots
from huesandrounds.errors import InvalidBody, TooMany
from huesandrounds.values import Body, Hues

F = ((1, 2, 3), (0, 3, 2), (0, 1, 3), (0, 2, 1))
P = ((1, 2, 3), (0, 3, 4, 2), (0, 1, 4, 3), (0, 2, 4, 1), (1, 3, 2))
K = ((1, 2, 3, 4), (0, 4, 5, 2), (0, 1, 5, 3), (0, 2, 5, 4), (0, 3, 5, 1), (1, 4, 3, 2))
Q = ((1, 5, 2, 3), (0, 3, 4, 2, 5), (0, 5, 1, 4, 3), (0, 2, 4, 1), (1, 3, 2), (0, 1, 2))
H = (0, 1, 2, 2, 1, 0)
R = ((0, 1), (0, 2), (1, 3), (2, 3))
T = ((0, 1), (0, 2), (1, 2))
X = (F, H, R, T)


def drawn(faces, seed):
    """A body of so many faces that comes of drawn cuts, with its faces renamed at random."""
    dice = random.Random(1000 * faces + seed)
    body = F
    while len(body) < faces:
        body = cut(body, dice.choice(spots(body)))
    names = list(range(faces))
    dice.shuffle(names)
    return renamed(body, names)


def renamed(body, names):
    """The body in which each face has the name with its index."""
    rings = [None] * len(body)
    for face, ring in enumerate(body):
        rings[names[face]] = turned_to_least([names[item] for item in ring])
    return tuple(rings)


def turned_to_least(ring):
    at = ring.index(min(ring))
    return tuple(ring[at:]) + tuple(ring[:at])


def drum(sides):
    """The body with a face of so many sides on both ends."""
    top = sides + 1
    belt = [tuple([0, face - 1 or sides, top, face % sides + 1]) for face in range(1, sides + 1)]
    rings = [tuple(range(1, sides + 1))] + belt + [tuple(range(sides, 0, -1))]
    return tuple(turned_to_least(list(ring)) for ring in rings)


def ball():
    """The body of twelve faces of five sides."""
    upper = [turned_to_least([0, 1 + (k + 4) % 5, 6 + (k + 4) % 5, 6 + k, 1 + (k + 1) % 5]) for k in range(5)]
    lower = [turned_to_least([11, 6 + (k + 1) % 5, 1 + (k + 1) % 5, 1 + k, 6 + (k + 4) % 5]) for k in range(5)]
    return tuple([(1, 2, 3, 4, 5)] + upper + lower + [(6, 10, 9, 8, 7)])


def some_bodies(least, most, each=3):
    """Bodies of least to most faces: some that are drawn, and the drum."""
    found = []
    for faces in range(least, most + 1):
        found.extend(drawn(faces, seed) for seed in range(each))
        if faces >= 5:
            found.append(drum(faces - 2))
    return found


def pair(one, other):
    return (min(one, other), max(one, other))


def deep(kind, width):
    """A value that is nested thirty deep, each time with the same item so many times over."""
    value = kind()
    for _ in range(29):
        value = kind([value]) if width == 1 else kind([value] * width)
    return value


def drawn_tree(body, seed):
    """A tree of edges, laid of edges in a drawn order."""
    dice = random.Random(seed)
    rest = edges(body)
    dice.shuffle(rest)
    lot = {corner: corner for corner in corners(body)}
    tree = []
    for edge in rest:
        one, other = [lot[corner] for corner in lot if set(edge) <= set(corner)]
        if one != other:
            tree.append(edge)
            lot = {corner: one if name == other else name for corner, name in lot.items()}
    return tuple(sorted(tree))


def odd_values():
    """Values of all kinds that are no argument of any function, but where integers are."""
    return [
        None, True, False, "", "0", "ab", "x" * 1000, " \n~", [], (), [0], (None,), (True, False), ((),), [[]],
        (0, "1"), ("0", "1", "2"), ([0, 1], [2, 3]), (0, (1, 2)), (-1, -1), (10 ** 119, 10 ** 119),
        deep(tuple, 1), deep(list, 1), deep(tuple, 90), deep(list, 90), (0,) * 90, ((0, 1),) * 90,
        (deep(tuple, 1)[0],) * 6, InvalidBody("odd"), TooMany(3), (TooMany(3),) * 4, Body(*F), Hues(F, *H), Bench(X),
        (Body(*F), H, R, T), (Hues(F, *H), Hues(F, *H)), (Bench(X),) * 6,
    ]


def odd_integers():
    return [-1, -2, 10 ** 13, 10 ** 119, -(10 ** 119), 1000]


def bent(value):
    """Values that come of a tuple by small faults: too short, too long, of other kinds, a place bent."""
    found = [list(value), value[:-1], value + value[-1:], value[1:], (value,), None]
    for at in (0, len(value) // 2, len(value) - 1):
        for item in (None, True, False, "0", [0], (), -2, 13, 10 ** 119, [value[at]], (value[at],), deep(tuple, 90)):
            found.append(value[:at] + (item,) + value[at + 1:])
        if isinstance(value[at], tuple):
            found.append(value[:at] + (list(value[at]),) + value[at + 1:])
    return found
