"""Signs of corners, and what leads between them and edge hues."""

import unittest
from itertools import product

from huesandrounds.bodies import corners, edges
from huesandrounds.edgehues import chain, count_edge_hues, edge_hues, exchanged
from huesandrounds.errors import InvalidHue, TooMany
from huesandrounds.signs import all_signs, corners_on, count_signs, face_sums, hues_of, is_signs, signs_of
from tests.brute import all_edge_hues, corners_of, edges_at, edges_of, turned_of
from tests.support import F, K, P, ball, bent, drum, odd_integers, odd_values, pair, some_bodies


def slow_sums(body, signs):
    told = dict(zip(corners_of(body), signs))
    return tuple(sum(sign for corner, sign in told.items() if face in corner) for face in range(len(body)))


def slow_signs(body, hues):
    told = dict(zip(edges_of(body), hues))
    found = []
    for corner in corners_of(body):
        a, b, c = turned_of(body)[corner]
        steps = {(told[pair(b, c)] - told[pair(a, b)]) % 3, (told[pair(c, a)] - told[pair(b, c)]) % 3}
        found.append({1: 1, 2: -1}[steps.pop()])
    return tuple(found)


class Signs(unittest.TestCase):
    def test_all_rows(self):
        for body in some_bodies(4, 7, 2) + [K]:
            rows = list(product((-1, 1), repeat=2 * len(body) - 4))
            slow = [row for row in rows if all(total % 3 == 0 for total in slow_sums(body, row))]
            self.assertEqual([row for row in rows if is_signs(body, row)], slow)
            self.assertEqual(all_signs(body), slow)
            self.assertEqual(count_signs(body), len(slow))
            for row in slow:
                self.assertEqual(face_sums(body, row), slow_sums(body, row))

    def test_signs_of_edge_hues(self):
        for body in some_bodies(4, 9):
            for hues in all_edge_hues(body):
                signs = signs_of(body, hues)
                self.assertEqual(signs, slow_signs(body, hues))
                self.assertIs(is_signs(body, signs), True)
                self.assertEqual(hues_of(body, signs, hues[0]), hues)

    def test_edge_hues_of_signs(self):
        for body in some_bodies(4, 9, 2):
            for signs in all_signs(body):
                rows = [hues_of(body, signs, hue) for hue in range(3)]
                self.assertEqual([row[0] for row in rows], [0, 1, 2])
                self.assertEqual([signs_of(body, row) for row in rows], [signs] * 3)

    def test_numbers(self):
        for body in some_bodies(4, 12) + [ball()]:
            self.assertEqual(3 * count_signs(body), count_edge_hues(body))
        self.assertEqual(len(all_signs(drum(7))), count_signs(drum(7)))

    def test_great_bodies(self):
        for body in some_bodies(10, 12, 1) + [ball()]:
            for hues in all_edge_hues(body)[::50]:
                signs = signs_of(body, hues)
                self.assertEqual(signs, slow_signs(body, hues))
                self.assertEqual(face_sums(body, signs), slow_sums(body, signs))
                self.assertEqual(hues_of(body, signs, hues[0]), hues)

    def test_no_signs(self):
        for body in (F, P, K, ball()):
            signs = signs_of(body, all_edge_hues(body)[0])
            for number, value in enumerate(odd_values() + odd_integers() + bent(signs)):
                self.assertIs(is_signs(body, value), False, number)
            for at in range(len(signs)):
                for sign in (-signs[at], 0, signs[at] + 3, signs[at] - 3):
                    self.assertFalse(is_signs(body, signs[:at] + (sign,) + signs[at + 1:]))

    def test_nine_faces_are_the_most(self):
        with self.assertRaises(TooMany) as told:
            all_signs(drum(8))
        self.assertEqual(told.exception.limit, 9)


class CornersOn(unittest.TestCase):
    def test_chains(self):
        for body in some_bodies(4, 8, 2) + [ball()]:
            for hues in all_edge_hues(body)[::17]:
                for edge, own in zip(edges(body), hues):
                    for hue in range(3):
                        if hue != own:
                            met = chain(body, hues, edge, hue)
                            slow = [corner for corner in corners(body) if any(item in met for item in edges_at(corner))]
                            self.assertEqual(corners_on(body, hues, edge, hue), tuple(slow))

    def test_an_exchange_turns_just_their_signs(self):
        for body in some_bodies(4, 9, 2):
            for hues in edge_hues(body)[::7]:
                for edge, own in zip(edges(body), hues):
                    for hue in range(3):
                        if hue != own:
                            one = signs_of(body, hues)
                            other = signs_of(body, exchanged(body, hues, edge, hue))
                            turned = [corner for corner, a, b in zip(corners(body), one, other) if a != b]
                            self.assertEqual(corners_on(body, hues, edge, hue), tuple(turned))

    def test_the_own_hue(self):
        hues = edge_hues(P)[0]
        for edge, own in zip(edges(P), hues):
            for hue in (own, -1, 3, True):
                with self.assertRaises(InvalidHue):
                    corners_on(P, hues, edge, hue)
