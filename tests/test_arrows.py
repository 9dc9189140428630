"""Arrows, right ones, and signs of pairings by them."""

import random
import unittest
from itertools import product

from huesandrounds.arrows import (along, are_arrows, are_right, arrow_sum, between, count_right, pairing_sign,
                                  pairing_sum, right_arrows, turned_at)
from huesandrounds.bodies import corners, edges
from huesandrounds.errors import InvalidArrows, InvalidWeights
from huesandrounds.lines import pairings
from tests.brute import all_pairings, corners_of, edges_of, ends_of
from tests.support import F, K, P, ball, bent, drum, odd_integers, odd_values, pair, some_bodies


def slow_along(body, arrows):
    """Around each face, from corner to corner, as the document tells."""
    told = dict(zip(edges_of(body), arrows))
    number = {corner: at for at, corner in enumerate(corners_of(body))}
    found = []
    for face, ring in enumerate(body):
        many = 0
        for at, other in enumerate(ring):
            start = number[tuple(sorted((face, other, ring[at - 1])))]
            end = number[tuple(sorted((face, other, ring[(at + 1) % len(ring)])))]
            many += (told[pair(face, other)] == 1) == (start < end)
        found.append(many)
    return tuple(found)


def slow_sign(body, arrows, pairing):
    told = dict(zip(edges_of(body), arrows))
    number = {corner: at for at, corner in enumerate(corners_of(body))}
    spans = [sorted(number[corner] for corner in ends_of(body, edge)) for edge in pairing]
    many = sum(told[edge] == -1 for edge in pairing)
    for at, (low, high) in enumerate(spans):
        for other in spans[at + 1:]:
            many += sum(low < end < high for end in other) == 1
    return (-1) ** many


def drawn_row(body, seed, items):
    dice = random.Random(seed)
    return tuple(dice.choice(items) for _ in edges(body))


class Arrows(unittest.TestCase):
    def test_along_and_right(self):
        for body in some_bodies(4, 12, 2) + [ball()]:
            for seed in range(15):
                arrows = drawn_row(body, seed, (1, -1))
                slow = slow_along(body, arrows)
                self.assertIs(are_arrows(body, arrows), True)
                self.assertEqual(along(body, arrows), slow)
                self.assertIs(are_right(body, arrows), all(many % 2 for many in slow))

    def test_right_arrows(self):
        for body in some_bodies(4, 12) + [ball()]:
            arrows = right_arrows(body)
            self.assertIs(type(arrows), tuple)
            self.assertTrue(all(many % 2 for many in slow_along(body, arrows)))
            self.assertIs(are_right(body, arrows), True)

    def test_how_many(self):
        for body in (F, P):
            rows = list(product((1, -1), repeat=len(edges(body))))
            self.assertEqual(count_right(body), sum(are_right(body, row) for row in rows))
        for body in some_bodies(4, 12):
            self.assertEqual(count_right(body), 2 ** (2 * len(body) - 5))

    def test_no_arrows(self):
        for body in (F, K, ball()):
            fine = right_arrows(body)
            for number, value in enumerate(odd_values() + odd_integers() + bent(fine)):
                self.assertIs(are_arrows(body, value), False, number)
                self.assertIs(are_right(body, value), False, number)
            for at in range(len(fine)):
                self.assertIs(are_right(body, fine[:at] + (-fine[at],) + fine[at + 1:]), False)
                self.assertIs(are_arrows(body, fine[:at] + (0,) + fine[at + 1:]), False)

    def test_turned_at(self):
        for body in some_bodies(4, 12, 1):
            arrows = drawn_row(body, 3, (1, -1))
            right = right_arrows(body)
            for corner in corners(body):
                told = [-item if corner in ends_of(body, edge) else item for edge, item in zip(edges(body), arrows)]
                self.assertEqual(turned_at(body, arrows, corner), tuple(told))
                self.assertTrue(are_right(body, turned_at(body, right, corner)))

    def test_between(self):
        for body in some_bodies(4, 12, 2) + [ball()]:
            for seed in range(8):
                dice = random.Random(seed)
                lot = tuple(corner for corner in corners(body) if dice.random() < 0.5)
                one = right_arrows(body)
                other = one
                for corner in lot:
                    other = turned_at(body, other, corner)
                rest = tuple(corner for corner in corners(body) if corner not in lot)
                self.assertEqual(between(body, one, other), rest if corners(body)[-1] in lot else lot)
                self.assertEqual(between(body, other, one), between(body, one, other))
            self.assertEqual(between(body, one, one), ())

    def test_all_right_arrows_come_of_one_another(self):
        for body in (F, P):
            rows = [row for row in product((1, -1), repeat=len(edges(body))) if are_right(body, row)]
            lots = {between(body, rows[0], row) for row in rows}
            self.assertEqual(len(lots), len(rows))
            for row in rows:
                here = rows[0]
                for corner in between(body, rows[0], row):
                    here = turned_at(body, here, corner)
                self.assertEqual(here, row)

    def test_between_takes_right_arrows_alone(self):
        fine, wrong = right_arrows(F), (1,) * 6
        self.assertTrue(are_arrows(F, wrong) and not are_right(F, wrong))
        for args in ((fine, wrong), (wrong, fine), (wrong, wrong)):
            with self.assertRaises(InvalidArrows):
                between(F, *args)


class Sums(unittest.TestCase):
    def test_signs(self):
        for body in some_bodies(4, 8, 2) + [ball(), drum(10)]:
            for seed in range(4):
                arrows = drawn_row(body, seed, (1, -1))
                for row in pairings(body)[::3]:
                    self.assertEqual(pairing_sign(body, arrows, row), slow_sign(body, arrows, row))

    def test_right_arrows_give_one_sign(self):
        for body in some_bodies(4, 12, 2) + [ball()]:
            arrows = right_arrows(body)
            for corner in corners(body)[::4]:
                arrows = turned_at(body, arrows, corner)
                self.assertEqual(len({pairing_sign(body, arrows, row) for row in pairings(body)}), 1)
            weights = drawn_row(body, 9, range(-1000, 1001))
            self.assertIn(arrow_sum(body, arrows, weights), (pairing_sum(body, weights), -pairing_sum(body, weights)))

    def test_sums(self):
        for body in some_bodies(4, 8, 2) + [K]:
            for seed in range(3):
                weights = drawn_row(body, seed, (0, 1, 2, -3, 10 ** 6, -10 ** 6))
                arrows = drawn_row(body, seed + 50, (1, -1))
                told = dict(zip(edges(body), weights))
                total = signed = 0
                for row in all_pairings(body):
                    worth = 1
                    for edge in row:
                        worth *= told[edge]
                    total += worth
                    signed += slow_sign(body, arrows, row) * worth
                self.assertEqual(pairing_sum(body, weights), total)
                self.assertEqual(arrow_sum(body, arrows, weights), signed)

    def test_great_weights(self):
        for body in (drum(10), ball()):
            many = len(pairings(body))
            self.assertEqual(pairing_sum(body, (10 ** 6,) * 30), many * 10 ** 60)
            self.assertEqual(pairing_sum(body, (-10 ** 6,) * 30), many * 10 ** 60)
            self.assertEqual(pairing_sum(body, (0,) * 30), 0)
            self.assertEqual(abs(arrow_sum(body, right_arrows(body), (10 ** 6,) * 30)), many * 10 ** 60)

    def test_no_weights(self):
        great = 10 ** 6 + 1
        for row in ((great,) + (0,) * 8, (-great,) + (0,) * 8, (0,) * 8, (0,) * 10, [0] * 9, (True,) * 9, None):
            with self.assertRaises(InvalidWeights):
                pairing_sum(P, row)
            with self.assertRaises(InvalidWeights):
                arrow_sum(P, right_arrows(P), row)
            with self.assertRaises(InvalidArrows):
                arrow_sum(P, (0,) * 9, row)
