"""Drums, and what is told of great ones."""

import unittest

from huesandrounds.bodies import is_body
from huesandrounds.drums import (drum, drum_edge_hues, drum_face_hues, drum_pairings, drum_rounds, drum_trees)
from huesandrounds.edgehues import count_edge_hues
from huesandrounds.errors import InvalidNumber, InvalidSides
from huesandrounds.facehues import count_face_hues
from huesandrounds.pairings import count_pairings
from huesandrounds.rounds import count_rounds
from huesandrounds.trees import count_trees
from tests.brute import all_hues_by
from tests.support import K, P, odd_integers, odd_values
from tests.support import drum as told_drum

MODULI = (1, 2, 7, 10, 997, 10 ** 6, 10 ** 12 - 1, 10 ** 12)
GREAT = (10 ** 30, 10 ** 30 - 1, 10 ** 29 + 7, 2 ** 99, 3 ** 60, 10 ** 15)


def slow_pairings(sides):
    """The number of pairings of a drum: of lots of places apart in a ring, laid one by one."""
    total = 0
    for first in (0, 1):
        # How many lots there are so far, with the last place in them, or not.
        without, having = (1, 0) if first == 0 else (0, 1)
        for _ in range(sides - 1):
            without, having = without + having, without
        total += without + (0 if first else having)
    return total + (2 if sides % 2 == 0 else 0)


def slow_edge_hues(sides):
    """The number of edge hues of a drum, laid side by side: the hues of a side at both end faces."""
    pairs = [(one, other) for one in range(3) for other in range(3)]
    total = 0
    for start in pairs:
        ways = {pair: int(pair == start) for pair in pairs}
        for _ in range(sides):
            fresh = dict.fromkeys(pairs, 0)
            for (one, other), many in ways.items():
                for between in range(3):
                    for near in pairs:
                        if len({one, between, near[0]}) == 3 and len({other, between, near[1]}) == 3:
                            fresh[near] += many
            ways = fresh
        total += ways[start]
    return total


class Drums(unittest.TestCase):
    def test_bodies(self):
        for sides in range(3, 11):
            self.assertEqual(drum(sides), told_drum(sides))
            self.assertIs(is_body(drum(sides)), True)
            self.assertEqual(drum(sides)[1], (0, sides, sides + 1, 2))
        self.assertEqual((drum(3), drum(4)), (P, K))

    def test_numbers_of_bodies(self):
        for sides in range(3, 11):
            body = drum(sides)
            self.assertEqual(drum_rounds(sides), count_rounds(body))
            for modulus in MODULI:
                self.assertEqual(drum_edge_hues(sides, modulus), count_edge_hues(body) % modulus)
                self.assertEqual(drum_pairings(sides, modulus), count_pairings(body) % modulus)
                self.assertEqual(drum_trees(sides, modulus), count_trees(body, "corners") % modulus)
                for many in (0, 1, 2, 3, 4, 5, 10 ** 12 - 1, 10 ** 12):
                    if sides <= 8:
                        told = count_face_hues(body, many)
                    else:
                        # Both end faces have one hue, or two, and the others are a ring by all other hues.
                        told = sum(times * ((left - 1) ** sides + (-1) ** sides * (left - 1)) for times, left in
                                   ((many, many - 1), (many * (many - 1), many - 2)))
                    self.assertEqual(drum_face_hues(sides, many, modulus), told % modulus)
        self.assertEqual(drum_face_hues(6, 4, 10 ** 6), len(all_hues_by(drum(6), 4)))

    def test_many_sides(self):
        for sides in list(range(3, 40)) + [200, 301]:
            for modulus in MODULI:
                self.assertEqual(drum_edge_hues(sides, modulus), slow_edge_hues(sides) % modulus)
                self.assertEqual(drum_pairings(sides, modulus), slow_pairings(sides) % modulus)

    def test_many_trees(self):
        # The number is sides times (a - 2) / 2, a being 2, 4, 14, 52 .., each four times the last less the one ahead.
        row = [2, 4]
        while len(row) < 400:
            row.append(4 * row[-1] - row[-2])
        for sides in range(3, 400, 11):
            for modulus in MODULI:
                self.assertEqual(drum_trees(sides, modulus), sides * (row[sides] - 2) // 2 % modulus)

    def test_great_numbers_of_sides(self):
        for sides in GREAT:
            even = sides % 2 == 0
            self.assertEqual(drum_rounds(sides), sides + 2 if even else sides)
            for modulus in MODULI:
                told = pow(2, sides, modulus) + (2 + 6 if even else -2)
                self.assertEqual(drum_edge_hues(sides, modulus), told % modulus)
                for many in (0, 1, 2, 3, 4, 10 ** 12 - 1, 10 ** 12):
                    sign = 1 if even else -1
                    one = many * (pow(many - 2, sides, modulus) + sign * (many - 2))
                    other = many * (many - 1) * (pow(many - 3, sides, modulus) + sign * (many - 3))
                    self.assertEqual(drum_face_hues(sides, many, modulus), (one + other) % modulus)
        # Of half as many sides as a great number of them these come by the rules of such rows.
        for sides in (10 ** 29, 10 ** 29 + 1, 5 * 10 ** 29, 123456789012345):
            for modulus in (7, 997, 10 ** 12 - 1):
                sign = 1 if sides % 2 == 0 else -1
                lot = drum_pairings(sides, modulus) - (2 if sign == 1 else 0)
                self.assertEqual(drum_pairings(2 * sides, modulus), (lot * lot - 2 * sign + 2) % modulus)

    def test_great_numbers_of_trees(self):
        # By a prime number the row of the trees comes again, so a great drum has what a small one has.
        for modulus in (5, 7, 11, 13, 997):
            row = [1, 2]
            while len(row) < 3 or (row[-2], row[-1]) != (1, 2 % modulus):
                row.append((4 * row[-1] - row[-2]) % modulus)
            length = len(row) - 2
            for sides in GREAT:
                self.assertEqual(drum_trees(sides, modulus), sides * (row[sides % length] - 1) % modulus)

    def test_by_one(self):
        for sides in (3, 4, 10 ** 30):
            for call in (drum_edge_hues, drum_pairings, drum_trees):
                self.assertEqual(call(sides, 1), 0)
            self.assertEqual(drum_face_hues(sides, 10 ** 12, 1), 0)


class Wrong(unittest.TestCase):
    def test_sides(self):
        for number, value in enumerate(odd_values() + [0, 1, 2, -3, 10 ** 30 + 1, 10 ** 119, "3", (3,), 3 * (True,)]):
            for call, more in ((drum, ()), (drum_rounds, ()), (drum_edge_hues, (None,)), (drum_pairings, (0,)),
                               (drum_trees, (0,)), (drum_face_hues, (None, None))):
                with self.assertRaises(InvalidSides, msg=number):
                    call(value, *more)
        for value in (11, 12, 10 ** 30):
            with self.assertRaises(InvalidSides):
                drum(value)

    def test_numbers(self):
        for number, value in enumerate(odd_values() + odd_integers()[:3] + [0, 10 ** 12 + 1, -1]):
            for call in (drum_edge_hues, drum_pairings, drum_trees):
                with self.assertRaises(InvalidNumber, msg=number):
                    call(3, value)
            with self.assertRaises(InvalidNumber, msg=number):
                drum_face_hues(3, 0, value)
            if value != 0 or type(value) is bool:
                with self.assertRaises(InvalidNumber, msg=number):
                    drum_face_hues(3, value, 1)
