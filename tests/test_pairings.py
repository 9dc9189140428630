"""How many pairings there are, which one stands where, the rings that they leave and the hues that they bear."""

import unittest
from fractions import Fraction
from itertools import combinations

from huesandrounds.bodies import corners, edges
from huesandrounds.edgehues import count_edge_hues
from huesandrounds.errors import InvalidIndex
from huesandrounds.lines import is_pairing, pairings
from huesandrounds.pairings import (count_pairings, edge_share, hues_borne, pairing_at, pairing_index, pairings_at,
                                    pairings_of, rings_left)
from tests.brute import all_edge_hues, all_pairings, corners_of, edges_at, edges_of, ends_of
from tests.support import F, K, P, ball, drum, some_bodies


def slow_rings(body, pairing):
    left = [edge for edge in edges_of(body) if edge not in pairing]
    found = []
    while left:
        met = []
        ahead = [left[0]]
        while ahead:
            here = ahead.pop()
            if here in left:
                left.remove(here)
                met.append(here)
                ahead.extend(edge for corner in ends_of(body, here) for edge in edges_at(corner))
        found.append(tuple(sorted(met)))
    return sorted(found)


class Numbers(unittest.TestCase):
    def test_numbers_and_indexes(self):
        for body in some_bodies(4, 8, 2) + [K]:
            slow = all_pairings(body)
            self.assertEqual(count_pairings(body), len(slow))
            self.assertEqual([pairing_at(body, index) for index in range(len(slow))], slow)
            self.assertEqual([pairing_index(body, row) for row in slow], list(range(len(slow))))
            for index in (-1, len(slow), True, None, "0", 10 ** 119, -(10 ** 119), (0,)):
                with self.assertRaises(InvalidIndex):
                    pairing_at(body, index)

    def test_great_bodies(self):
        self.assertEqual([count_pairings(drum(sides)) for sides in (8, 9, 10)], [49, 76, 125])
        self.assertEqual(count_pairings(ball()), 36)
        self.assertEqual(pairing_index(drum(10), pairing_at(drum(10), 124)), 124)

    def test_shares(self):
        for body in some_bodies(4, 12, 2) + [ball()]:
            rows = pairings(body)
            for edge in edges(body):
                top, below = edge_share(body, edge)
                told = Fraction(sum(edge in row for row in rows), len(rows))
                self.assertEqual((top, below), (told.numerator, told.denominator))
                self.assertGreater(top, 0)
            for corner in corners(body):
                self.assertEqual(sum(Fraction(*edge_share(body, edge)) for edge in edges_at(corner)), 1)

    def test_pairings_at(self):
        for body in some_bodies(4, 8, 2) + [K]:
            rows = all_pairings(body)
            for corner in corners(body):
                near = {other for edge in edges_at(corner) for other in ends_of(body, edge)}
                rest = [item for item in corners_of(body) if item not in near]
                free = [edge for edge in edges_of(body) if not near & set(ends_of(body, edge))]
                ways = [some for some in combinations(free, len(rest) // 2)
                        if sorted(end for edge in some for end in ends_of(body, edge)) == rest]
                told = [sum(edge in row for row in rows) for edge in edges_at(corner)] + [len(ways)]
                self.assertEqual(pairings_at(body, corner), tuple(told))

    def test_pairings_at_of_great_bodies(self):
        for body in (drum(10), ball()):
            for corner in corners(body):
                self.assertEqual(sum(pairings_at(body, corner)[:3]), count_pairings(body))


class Rings(unittest.TestCase):
    def test_rings_left(self):
        for body in some_bodies(4, 12, 1) + [ball()]:
            for row in pairings(body)[::2]:
                self.assertEqual(rings_left(body, row), slow_rings(body, row))

    def test_hues_borne(self):
        for body in some_bodies(4, 9, 2) + [K]:
            hues = all_edge_hues(body)
            total = 0
            for row in pairings(body):
                at = [edges(body).index(edge) for edge in row]
                many = sum(all(some[place] == 2 for place in at) for some in hues)
                self.assertEqual(hues_borne(body, row), many)
                total += many
            self.assertEqual(total, count_edge_hues(body))

    def test_hues_borne_by_great_bodies(self):
        for body in some_bodies(10, 12, 2) + [ball(), drum(10)]:
            total = sum(hues_borne(body, row) for row in pairings(body))
            self.assertEqual(total, count_edge_hues(body))

    def test_pairings_of_hues(self):
        for body in some_bodies(4, 8, 2) + [ball()]:
            for hues in all_edge_hues(body)[::5]:
                found = pairings_of(body, hues)
                self.assertIs(type(found), tuple)
                for hue in range(3):
                    told = tuple(edge for edge, own in zip(edges(body), hues) if own == hue)
                    self.assertEqual(found[hue], told)
                    self.assertTrue(is_pairing(body, found[hue]))
                    self.assertGreater(hues_borne(body, found[hue]), 0)

    def test_small_bodies(self):
        self.assertEqual([hues_borne(P, row) for row in pairings(P)], [2, 2, 2, 0])
        self.assertEqual([hues_borne(F, row) for row in pairings(F)], [2, 2, 2])
