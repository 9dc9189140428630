"""Sums over corners and over faces by bonds."""

import random
import unittest
from math import prod

from huesandrounds.errors import InvalidBonds
from huesandrounds.evenlots import even_sizes
from huesandrounds.tears import tear_sizes
from huesandrounds.weighing import corner_sum, face_sum, turned_bonds
from tests.brute import corners_of, edges_of, ends_of
from tests.support import F, K, P, ball, bent, deep, drawn, drum, odd_values, some_bodies
from tests.test_evenlots import lots_in


def slow_sum(body, bonds, places, met):
    """The sum over all lots of places, an edge being parted if just one of the two places that it meets is in them."""
    total = 0
    ends = [met(body, edge) for edge in edges_of(body)]
    for lot in lots_in(places):
        total += prod(other if (one in lot) != (last in lot) else same
                      for (same, other), (one, last) in zip(bonds, ends))
    return total


def slow_corner_sum(body, bonds):
    return slow_sum(body, bonds, corners_of(body), ends_of)


def slow_face_sum(body, bonds):
    return slow_sum(body, bonds, range(len(body)), lambda _, edge: edge)


def drawn_bonds(body, seed, most=1000):
    dice = random.Random(seed)
    numbers = (0, 1, -1, most, -most, dice.randint(-most, most), dice.randint(-9, 9))
    return tuple((dice.choice(numbers), dice.choice(numbers)) for _ in edges_of(body))


class Sums(unittest.TestCase):
    def test_over_corners(self):
        for number, body in enumerate([F, P, K, drawn(5, 1), drawn(6, 1), drum(4), drawn(7, 1)]):
            for seed in range(4 if len(body) < 7 else 1):
                bonds = drawn_bonds(body, 10 * number + seed)
                self.assertEqual(corner_sum(body, bonds), slow_corner_sum(body, bonds))

    def test_over_faces(self):
        for number, body in enumerate([F, P, K] + some_bodies(5, 9, 1)):
            for seed in range(4):
                bonds = drawn_bonds(body, 10 * number + seed)
                self.assertEqual(face_sum(body, bonds), slow_face_sum(body, bonds))

    def test_one_edge_after_another(self):
        for body in (F, P, drawn(5, 1)):
            for at in range(len(edges_of(body))):
                bonds = tuple((7, -11) if place == at else (1, 2) for place in range(len(edges_of(body))))
                self.assertEqual(corner_sum(body, bonds), slow_corner_sum(body, bonds))
                self.assertEqual(face_sum(body, bonds), slow_face_sum(body, bonds))

    def test_by_sums_and_differences(self):
        for body in some_bodies(4, 12, 2) + [K, ball()]:
            for seed in range(3):
                bonds = drawn_bonds(body, seed, 500)
                turned = turned_bonds(body, bonds)
                self.assertEqual(turned, tuple((same + other, same - other) for same, other in bonds))
                self.assertEqual(face_sum(body, turned), 2 ** (len(body) - 1) * corner_sum(body, bonds))

    def test_by_sizes(self):
        for body in some_bodies(4, 12, 2) + [K, ball()]:
            many = len(edges_of(body))
            for same, other in ((1, 1), (1, 10), (0, 1), (1, 0), (3, -1), (1000, 1000), (-1000, 7), (0, 0)):
                bonds = ((same, other),) * many
                told = sum(count * other ** size * same ** (many - size) for size, count in enumerate(tear_sizes(body)))
                self.assertEqual(corner_sum(body, bonds), 2 * told)
                told = sum(count * other ** size * same ** (many - size) for size, count in enumerate(even_sizes(body)))
                self.assertEqual(face_sum(body, bonds), 2 * told)


class Bonds(unittest.TestCase):
    def test_limits(self):
        for body in (F, K, ball(), drum(10)):
            many = len(edges_of(body))
            for bond in ((1000, -1000), (-1000, -1000), (0, 1000), (0, 0)):
                self.assertIsInstance(corner_sum(body, (bond,) * many), int)
                self.assertIsInstance(face_sum(body, (bond,) * many), int)
            self.assertEqual(turned_bonds(body, ((500, -500),) * many), ((0, 1000),) * many)
            self.assertEqual(turned_bonds(body, ((-500, -500),) * many), ((-1000, 0),) * many)
            self.assertEqual(turned_bonds(body, ((0, 1000),) * many), ((1000, -1000),) * many)
            for bond in ((501, 500), (1, 1000), (-1, -1000), (1, -1000), (-600, 401), (1000, 1000)):
                with self.assertRaises(InvalidBonds):
                    turned_bonds(body, ((0, 0),) * (many - 1) + (bond,))

    def test_no_bonds(self):
        for body in (F, K, ball()):
            fine = drawn_bonds(body, 1, 400)
            wrong = [((1001, 0),) + fine[1:], fine[:-1] + ((0, -1001),), fine[1:], fine + fine[:1], list(fine),
                     ((True, 0),) + fine[1:], ((0, 0, 0),) + fine[1:], ([0, 0],) + fine[1:], (0,) + fine[1:],
                     fine[:-1] + (deep(tuple, 90),), fine[:-1] + ((deep(tuple, 90), 0),)]
            for number, value in enumerate(wrong + odd_values() + bent(fine)):
                for call in (corner_sum, face_sum, turned_bonds):
                    with self.assertRaises(InvalidBonds, msg=number):
                        call(body, value)
