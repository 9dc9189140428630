"""Pairings, drawings and their lines."""

import unittest
from itertools import product

from huesandrounds.edgehues import count_edge_hues
from huesandrounds.errors import InvalidDrawing, InvalidNumber, InvalidPairing
from huesandrounds.lines import count_lines, is_pairing, line_sums, pairings, signed_sum
from tests.brute import all_pairings, corners_of, edges_at, edges_of, line_count
from tests.support import F, K, P, ball, bent, drum, odd_integers, odd_values, some_bodies


class Pairings(unittest.TestCase):
    def test_lists(self):
        for body in some_bodies(4, 8, 2) + [K]:
            slow = all_pairings(body)
            self.assertEqual(pairings(body), slow)
            self.assertTrue(all(is_pairing(body, row) is True for row in slow))

    def test_great_bodies(self):
        for body in some_bodies(9, 12) + [ball()]:
            rows = pairings(body)
            self.assertEqual(rows, sorted(set(rows)))
            for row in rows:
                self.assertEqual(row, tuple(sorted(row)))
                self.assertTrue(all(sum(edge in row for edge in edges_at(corner)) == 1 for corner in corners_of(body)))
        self.assertEqual([len(pairings(drum(sides))) for sides in (7, 8, 9, 10)], [29, 49, 76, 125])
        self.assertEqual(len(pairings(ball())), 36)

    def test_each_edge_is_in_one(self):
        for body in some_bodies(4, 12):
            self.assertEqual({edge for row in pairings(body) for edge in row}, set(edges_of(body)))

    def test_no_pairings(self):
        for body in (F, P, K, ball()):
            fine = pairings(body)
            for row in fine[:3]:
                for number, value in enumerate(odd_values() + odd_integers() + bent(row)):
                    self.assertIs(is_pairing(body, value), False, number)
                self.assertFalse(is_pairing(body, row[::-1]))
                self.assertFalse(is_pairing(body, tuple(edge[::-1] for edge in row)))
                for at in range(len(row)):
                    self.assertFalse(is_pairing(body, row[:at] + row[at + 1:]))
                    for edge in edges_of(body):
                        other = tuple(sorted(row[:at] + (edge,) + row[at + 1:]))
                        self.assertIs(is_pairing(body, other), other in fine)


class Lines(unittest.TestCase):
    def test_all_drawings(self):
        for body in some_bodies(4, 7, 2) + [K]:
            for row in pairings(body):
                sums = [0] * (len(body) - 1)
                for drawing in product((0, 1), repeat=len(row)):
                    many = line_count(body, row, drawing)
                    self.assertEqual(count_lines(body, row, drawing), many)
                    sums[many] += (-1) ** sum(drawing)
                self.assertEqual(line_sums(body, row), tuple(sums))

    def test_great_bodies(self):
        for body in some_bodies(11, 12, 1) + [ball()]:
            row = pairings(body)[-1]
            for at, drawing in enumerate(product((0, 1), repeat=len(row))):
                if at % 97 == 0:
                    self.assertEqual(count_lines(body, row, drawing), line_count(body, row, drawing))

    def test_signed_sums_tell_edge_hues(self):
        for body in some_bodies(4, 9, 2) + [K]:
            for row in pairings(body):
                self.assertEqual(signed_sum(body, row, 3), count_edge_hues(body))
        for body in (drum(10), ball()):
            for row in pairings(body)[::20]:
                self.assertEqual(signed_sum(body, row, 3), count_edge_hues(body))

    def test_signed_sums(self):
        for body in some_bodies(4, 7, 1):
            for row in pairings(body)[:2]:
                sums = line_sums(body, row)
                for number in (0, 1, 2, 5, 10 ** 12):
                    told = sum(item * number ** many for many, item in enumerate(sums))
                    self.assertEqual(signed_sum(body, row, number), told)
                for number in (-1, 10 ** 12 + 1, True, None):
                    with self.assertRaises(InvalidNumber):
                        signed_sum(body, row, number)

    def test_no_drawings(self):
        for body in (F, P, ball()):
            row = pairings(body)[0]
            fine = (0,) * len(row)
            rest = fine[1:]
            for drawing in (rest, fine + (0,), list(fine), (2,) + rest, (-1,) + rest, (True,) + rest, 0, None):
                with self.assertRaises(InvalidDrawing):
                    count_lines(body, row, drawing)
                with self.assertRaises(InvalidPairing):
                    count_lines(body, row[1:], drawing)
