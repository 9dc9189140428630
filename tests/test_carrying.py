"""Moves of chips along edges, and loads on corners and on faces that belong together."""

import random
import unittest

from huesandrounds.carrying import carried, carried_back, moved
from huesandrounds.chips import alike_loads, low
from huesandrounds.errors import InvalidLoad, InvalidMoves
from tests.brute import begin_and_end, corners_of, edges_of
from tests.support import F, K, P, ball, bent, drum, odd_integers, odd_values, some_bodies

MOST = 10 ** 9


def slow_moved(body, moves):
    on_corners = {corner: 0 for corner in corners_of(body)}
    on_faces = [0] * len(body)
    for edge, many in zip(edges_of(body), moves):
        start, end = begin_and_end(body, edge)
        on_corners[start] -= many
        on_corners[end] += many
        on_faces[edge[0]] += many
        on_faces[edge[1]] -= many
    return tuple(on_corners[corner] for corner in corners_of(body)), tuple(on_faces)


def drawn_moves(body, dice, most):
    return tuple(dice.randint(-most, most) for _ in edges_of(body))


class Moves(unittest.TestCase):
    def test_moves(self):
        dice = random.Random(1)
        for body in some_bodies(4, 12, 2) + [K, ball()]:
            many = len(edges_of(body))
            rows = [drawn_moves(body, dice, most) for most in (1, 9, 10 ** 6)]
            for moves in rows + [(10 ** 6,) * many, (-10 ** 6,) * many, (0,) * many]:
                told = moved(body, moves)
                self.assertEqual(told, slow_moved(body, moves))
                self.assertEqual([sum(row) for row in told], [0, 0])

    def test_no_moves(self):
        for body in (F, P, ball()):
            many = len(edges_of(body))
            wrong = [(10 ** 6 + 1,) * many, (0,) * (many - 1) + (-10 ** 6 - 1,), (0,) * (many - 1), [0] * many]
            for number, value in enumerate(wrong + odd_values() + odd_integers() + [(True,) * many]):
                with self.assertRaises(InvalidMoves, msg=number):
                    moved(body, value)


class Carrying(unittest.TestCase):
    def test_moves_make_loads_belong_together(self):
        dice = random.Random(2)
        for body in some_bodies(4, 12, 2) + [K, ball()]:
            for most in (1, 4, 10 ** 6):
                on_corners, on_faces = slow_moved(body, drawn_moves(body, dice, most))
                self.assertEqual(carried(body, on_corners), low(body, "faces", on_faces))
                self.assertEqual(carried_back(body, on_faces), low(body, "corners", on_corners))

    def test_one_to_one(self):
        dice = random.Random(3)
        for body in some_bodies(4, 12, 1) + [K]:
            for most in (1, 5, MOST // 99):
                load = [dice.randint(-most, most) for _ in corners_of(body)]
                load = tuple(load[:-1] + [-sum(load[:-1])])
                told = carried(body, load)
                self.assertEqual(sum(told), 0)
                self.assertEqual(low(body, "faces", told), told)
                self.assertEqual(carried_back(body, told), low(body, "corners", load))
                row = [dice.randint(-most, most) for _ in body]
                row = tuple(row[:-1] + [-sum(row[:-1])])
                self.assertEqual(carried(body, carried_back(body, row)), low(body, "faces", row))

    def test_sums(self):
        dice = random.Random(4)
        for body in some_bodies(4, 10, 1):
            one, other = [slow_moved(body, drawn_moves(body, dice, 9))[0] for _ in range(2)]
            both = tuple(item + more for item, more in zip(one, other))
            told = tuple(item + more for item, more in zip(carried(body, one), carried(body, other)))
            self.assertTrue(alike_loads(body, "faces", carried(body, both), told))

    def test_great_loads(self):
        for body in (ball(), drum(10)):
            for load in ((MOST, -MOST) * 10, (MOST,) * 10 + (-MOST,) * 10):
                self.assertEqual(carried_back(body, carried(body, load)), low(body, "corners", load))
            for load in ((MOST, -MOST) * 6, (MOST,) * 6 + (-MOST,) * 6):
                self.assertEqual(carried(body, carried_back(body, load)), low(body, "faces", load))

    def test_no_loads(self):
        for body in (F, P, ball()):
            for call, many in ((carried, len(corners_of(body))), (carried_back, len(body))):
                fine = (MOST, -MOST) + (0,) * (many - 2)
                call(body, fine)
                wrong = [(MOST + 1, -MOST - 1) + fine[2:], (1,) + (0,) * (many - 1), (0,) * (many + 1), [0] * many,
                         (False,) * many, (1,) * many]
                faults = [value for value in bent(fine) if type(value) is not tuple or sum_of(value) != 0]
                for number, value in enumerate(wrong + odd_values() + faults):
                    with self.assertRaises(InvalidLoad, msg=number):
                        call(body, value)


def sum_of(value):
    """The sum of a tuple of integers, or None."""
    return sum(value) if all(type(item) is int for item in value) else None
