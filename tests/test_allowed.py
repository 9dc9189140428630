"""Allowed hues, face hues that go with them, and denials."""

import random
import unittest

from huesandrounds.allowed import count_with, denial, hues_with, is_allowed, is_denial
from huesandrounds.errors import InvalidAllowed
from huesandrounds.facehues import is_face_hues
from tests.brute import all_hues_by
from tests.support import F, K, P, ball, bent, deep, drawn, drum, odd_integers, odd_values, some_bodies


def drawn_allowed(body, seed):
    dice = random.Random(seed)
    return tuple(tuple(sorted(dice.sample(range(4), dice.choice((0, 1, 2, 2, 3, 3, 4, 4, 4))))) for _ in body)


def tight_allowed(body, seed):
    """Allowed hues without an empty tuple, so that denials are deep."""
    dice = random.Random(seed)
    return tuple(tuple(sorted(dice.sample(range(4), dice.choice((2, 2, 3))))) for _ in body)


def slow_is_denial(body, allowed, lay, value):
    """The definition, word by word."""
    def can(face):
        return [hue for hue in allowed[face] if hue not in [lay.get(other) for other in body[face]]]

    if isinstance(value, int):
        return value not in lay and not can(value)
    face, rows = value
    if face in lay or not can(face) or len(rows) != len(can(face)):
        return False
    return all(slow_is_denial(body, allowed, {**lay, face: hue}, row) for hue, row in zip(can(face), rows))


def nodes(value, way=()):
    """All denials within a denial, each with the indexes that lead there."""
    yield way, value
    if isinstance(value, tuple):
        for at, row in enumerate(value[1]):
            yield from nodes(row, way + (at,))


def with_node(value, way, other):
    if not way:
        return other
    face, rows = value
    at = way[0]
    return (face, rows[:at] + (with_node(rows[at], way[1:], other),) + rows[at + 1:])


class Allowed(unittest.TestCase):
    def test_allowed_hues(self):
        for body in (F, P, K, drum(10)):
            for row in ((), (0,), (3,), (0, 3), (1, 2, 3), (0, 1, 2, 3)):
                self.assertIs(is_allowed(body, (row,) * len(body)), True)
            for row in ((1, 0), (2, 2), (0, 1, 1), (4,), (-1,), (0, 1, 2, 3, 4), (True,), (False, 1), [0], 0, None):
                self.assertIs(is_allowed(body, ((0, 1),) * (len(body) - 1) + (row,)), False)
            for row in ((), (0, 1)):
                self.assertIs(is_allowed(body, (row,) * (len(body) - 1)), False)
                self.assertIs(is_allowed(body, (row,) * (len(body) + 1)), False)
            for number, value in enumerate(odd_values() + odd_integers()):
                self.assertIs(is_allowed(body, value), False, number)

    def test_hues_with(self):
        for body in some_bodies(4, 8, 2):
            rows = all_hues_by(body, 4)
            for seed in range(25):
                for allowed in (drawn_allowed(body, seed), tight_allowed(body, seed)):
                    slow = [row for row in rows if all(hue in some for hue, some in zip(row, allowed))]
                    self.assertEqual(count_with(body, allowed), len(slow))
                    if slow:
                        self.assertIn(hues_with(body, allowed), slow)
                        self.assertIsNone(denial(body, allowed))
                    else:
                        self.assertIsNone(hues_with(body, allowed))
                        self.assertIs(is_denial(body, allowed, denial(body, allowed)), True)
                        self.assertTrue(slow_is_denial(body, allowed, {}, denial(body, allowed)))

    def test_just_one_of_both_on_great_bodies(self):
        met = {True: 0, False: 0}
        for body in some_bodies(9, 12, 2) + [ball()]:
            for seed in range(25):
                for allowed in (drawn_allowed(body, seed), tight_allowed(body, seed)):
                    hues, told = hues_with(body, allowed), denial(body, allowed)
                    self.assertEqual(hues is None, told is not None)
                    self.assertEqual(count_with(body, allowed) == 0, hues is None)
                    if hues is None:
                        self.assertIs(is_denial(body, allowed, told), True)
                    else:
                        self.assertTrue(is_face_hues(body, hues))
                        self.assertTrue(all(hue in some for hue, some in zip(hues, allowed)))
                    met[hues is None] += 1
        self.assertTrue(met[True] > 20 and met[False] > 20)

    def test_three_hues_where_some_sides_are_odd(self):
        for body in (F, P, ball(), drum(9)):
            allowed = ((1, 2, 3),) * len(body)
            self.assertEqual(count_with(body, allowed), 0)
            self.assertTrue(is_denial(body, allowed, denial(body, allowed)))

    def test_full_and_empty(self):
        for body in (F, K, drum(10), ball()):
            full = ((0, 1, 2, 3),) * len(body)
            self.assertEqual(count_with(body, full), len(all_hues_by(body, 4)))
            for face in range(len(body)):
                allowed = full[:face] + ((),) + full[face + 1:]
                self.assertEqual((count_with(body, allowed), hues_with(body, allowed)), (0, None))
                self.assertIs(is_denial(body, allowed, face), True)
                self.assertIs(is_denial(body, allowed, (face + 1) % len(body)), False)
                self.assertIs(is_denial(body, allowed, denial(body, allowed)), True)


class Denials(unittest.TestCase):
    def denials(self):
        for body in [F, P, K, drawn(7, 1)]:
            found = [call(body, seed) for seed in range(40) for call in (drawn_allowed, tight_allowed)]
            for allowed in found:
                if hues_with(body, allowed) is None:
                    yield body, allowed, denial(body, allowed)

    def test_bent_denials(self):
        for body, allowed, value in self.denials():
            for way, node in list(nodes(value)):
                others = list(range(-1, len(body) + 1)) + [None, True, False, "0", (), (0,), (0, ()), [node], (node,)]
                if isinstance(node, tuple):
                    others += [node[:1], list(node), node + (0,), (node[0], list(node[1])), (node[0], node[1][:-1]),
                               (node[0], node[1] + node[1][-1:]), (node[0], node[1][::-1]), (node[0], None)]
                for other in others:
                    bentway = with_node(value, way, other)
                    self.assertIs(is_denial(body, allowed, bentway), self.is_one(body, allowed, bentway))

    def is_one(self, body, allowed, value):
        """The definition, for any value that is bent a little."""
        for _, node in self.all_nodes(value):
            if type(node) is int and 0 <= node < len(body):
                continue
            if type(node) is not tuple or len(node) != 2 or type(node[1]) is not tuple:
                return False
            if type(node[0]) is not int or not 0 <= node[0] < len(body):
                return False
        return slow_is_denial(body, allowed, {}, value)

    def all_nodes(self, value):
        yield (), value
        if type(value) is tuple and len(value) == 2 and type(value[1]) is tuple:
            for row in value[1]:
                yield from self.all_nodes(row)

    def test_rows_stand_in_the_order_of_hues(self):
        # The face 1 can have the hues 0 and 1, and the others are denied behind each in another way.
        allowed = ((), (0, 1), (0,), (1,))
        self.assertIs(is_denial(F, allowed, (1, (2, 3))), True)
        self.assertIs(is_denial(F, allowed, (1, (3, 2))), False)
        self.assertIs(is_denial(F, allowed, (1, (0, 0))), True)
        self.assertIs(is_denial(F, allowed, (1, (0, 3))), True)
        self.assertIs(is_denial(F, allowed, (1, (2,))), False)
        self.assertIs(is_denial(F, allowed, (1, (2, 3, 0))), False)

    def test_a_face_that_is_in_the_lay(self):
        allowed = ((0, 1), (0, 1), (0, 1), (0, 1))
        self.assertIs(is_denial(F, allowed, (0, ((1, (2,)), (1, (2,))))), True)
        self.assertIs(is_denial(F, allowed, (0, ((0, (2,)), (1, (2,))))), False)
        self.assertIs(is_denial(F, allowed, (0, (0, 0))), False)
        self.assertIs(is_denial(F, allowed, (0, ((1, (1,)), (1, (2,))))), False)

    def test_a_face_that_can_have_no_hue(self):
        allowed = ((), (0,), (1,), (2,))
        self.assertIs(is_denial(F, allowed, 0), True)
        self.assertIs(is_denial(F, allowed, (0, ())), False)
        self.assertIs(is_denial(F, allowed, (1, (0,))), True)

    def test_odd_values(self):
        for body, allowed in ((F, ((0, 1),) * 4), (K, ((0,),) * 6), (drum(10), ((0, 1, 2, 3),) * 12)):
            for number, value in enumerate(odd_values() + odd_integers() + bent((0, ((1, (2,)), (1, (2,)))))):
                if body == F and slow_fine(value):
                    continue
                self.assertIs(is_denial(body, allowed, value), False, number)

    def test_the_greatest_denials(self):
        # All hues of the ten faces around are laid, one by one, before a face without any is told.
        body = drum(10)
        allowed = ((),) + ((0, 1, 2, 3),) * 10 + ((),)
        known = {}

        def behind(at, first, last):
            key = (at, first, last)
            if at == 11:
                return 0
            if key not in known:
                free = [hue for hue in range(4) if hue != last and not (at == 10 and hue == first)]
                known[key] = (at, tuple(behind(at + 1, hue if at == 1 else first, hue) for hue in free))
            return known[key]

        self.assertIs(is_denial(body, allowed, behind(1, None, None)), True)
        self.assertIs(is_denial(body, ((0, 1, 2, 3),) * 12, behind(1, None, None)), False)

    def test_deep_values(self):
        value = 0
        for _ in range(14):
            value = (0, (value,) * 4)
        for body in (F, K, drum(10)):
            self.assertIs(is_denial(body, ((0, 1, 2, 3),) * len(body), value), False)
            self.assertIs(is_denial(body, ((0, 1, 2, 3),) * len(body), deep(tuple, 90)), False)

    def test_allowed_comes_ahead_of_any_value(self):
        for allowed in (None, (), ((1, 0),) * 4, [(0,)] * 4):
            for call in (hues_with, count_with, denial):
                with self.assertRaises(InvalidAllowed):
                    call(F, allowed)
            with self.assertRaises(InvalidAllowed):
                is_denial(F, allowed, deep(tuple, 90))


def slow_fine(value):
    """Whether a value is the denial itself that is bent in these tests, or another right one."""
    return value == (0, ((1, (2,)), (1, (2,))))
