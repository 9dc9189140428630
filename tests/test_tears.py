"""Tears, sums of even lots and tears, bicycles and zigzags."""

import random
import unittest

from huesandrounds.chips import invariants
from huesandrounds.errors import InvalidCorners, InvalidEdges, InvalidTear
from huesandrounds.evenlots import even_lots, is_even
from huesandrounds.facehues import three_hues
from huesandrounds.tears import (bicycles, corners_of, count_bicycles, edge_kind, is_tear, split, tear, tear_sizes,
                                 zigzags)
from huesandrounds.trees import count_trees, trees_with
from tests.brute import corners_of as all_corners
from tests.brute import edges_of, ends_of
from tests.support import F, K, P, R, ball, bent, deep, drawn, drum, odd_integers, odd_values, pair, some_bodies
from tests.test_evenlots import drawn_lot, lots_in, slow_rim


def slow_tear(body, corners):
    return tuple(edge for edge in edges_of(body) if sum(end in corners for end in ends_of(body, edge)) == 1)


def slow_tears(body):
    """All tears, each once, by lots of corners without the first one."""
    return sorted(slow_tear(body, some) for some in lots_in(all_corners(body)[1:]))


def slow_even(body):
    return [slow_rim(body, faces) for faces in lots_in(range(1, len(body)))]


def summed(one, other):
    return tuple(sorted(set(one) ^ set(other)))


def slow_zigzags(body):
    """All zigzags, each walked from three faces of a corner, in all orders of these."""
    found = set()
    for a, b, c in all_corners(body):
        for start in ((a, b, c), (a, c, b), (b, a, c), (b, c, a), (c, a, b), (c, b, a)):
            walk = list(start)
            while len(walk) == 3 or tuple(walk[-3:]) != start:
                fit = [face for face in range(len(body)) if tuple(sorted((walk[-2], walk[-1], face))) in
                       all_corners(body) and face not in walk[-3:]]
                walk.append(fit[0])
            walk = walk[:-3]
            turns = [walk[at:] + walk[:at] for at in range(len(walk))]
            found.add(tuple(min(turns + [turn[::-1] for turn in turns])))
    return sorted(found)


def edges_on(walk):
    return [pair(walk[at - 1], walk[at]) for at in range(len(walk))]


class Tears(unittest.TestCase):
    def test_all_lots_of_edges(self):
        for body in (F, P, drawn(5, 1)):
            told = slow_tears(body)
            self.assertEqual(len(set(told)), 2 ** (2 * len(body) - 5))
            self.assertEqual(sorted(lot for lot in lots_in(edges_of(body)) if is_tear(body, lot)), told)
        for body in (K, drawn(6, 2)):
            told = set(slow_tears(body))
            for lot in lots_in(edges_of(body))[::5]:
                self.assertIs(is_tear(body, lot), lot in told)

    def test_tears(self):
        for body in (F, P, K):
            for some in lots_in(all_corners(body)):
                self.assertEqual(tear(body, some), slow_tear(body, some))
                self.assertIs(is_tear(body, tear(body, some)), True)
        for body in some_bodies(6, 12, 2) + [ball()]:
            self.assertEqual(tear(body, tuple(all_corners(body))), ())
            for seed in range(6):
                some = drawn_lot(all_corners(body), seed)
                self.assertEqual(tear(body, some), slow_tear(body, some))

    def test_corners_of_tears(self):
        for body in some_bodies(4, 12, 2) + [K, ball()]:
            self.assertEqual(corners_of(body, ()), ())
            for seed in range(8):
                some = drawn_lot(all_corners(body)[1:], seed)
                self.assertEqual(corners_of(body, slow_tear(body, some)), some)
            first = tuple(all_corners(body)[:1])
            self.assertEqual(corners_of(body, slow_tear(body, first)), tuple(all_corners(body)[1:]))

    def test_sizes(self):
        for body in some_bodies(4, 8, 1) + [K]:
            sizes = [len(lot) for lot in slow_tears(body)]
            self.assertEqual(tear_sizes(body), tuple(sizes.count(many) for many in range(len(edges_of(body)) + 1)))
        for body in some_bodies(9, 12, 1) + [ball()]:
            sizes = tear_sizes(body)
            self.assertEqual((len(sizes), sum(sizes)), (len(edges_of(body)) + 1, 2 ** (2 * len(body) - 5)))
            # No edge is a tear, nor are two; three are one at a corner, or around a belt.
            self.assertEqual(sizes[:3], (1, 0, 0))
            self.assertGreaterEqual(sizes[3], 2 * len(body) - 4)
            # All edges are a tear just if the faces can have three hues.
            self.assertEqual(sizes[-1], 1 if three_hues(body) else 0)
        self.assertEqual(tear_sizes(ball())[3], 20)

    def test_even_lots_and_tears_have_an_even_number_in_common(self):
        for body in some_bodies(4, 9, 1):
            for seed, lot in enumerate(even_lots(body)[::9]):
                torn = tear(body, drawn_lot(all_corners(body), seed))
                self.assertEqual(len(set(lot) & set(torn)) % 2, 0)

    def test_all_edges(self):
        for body in some_bodies(4, 12, 2) + [K, ball()]:
            self.assertIs(is_tear(body, tuple(edges_of(body))), three_hues(body) is not None)


class Split(unittest.TestCase):
    def check(self, body, lot, told):
        one, other = told
        self.assertIs(is_even(body, one), True)
        self.assertIs(is_tear(body, other), True)
        self.assertEqual(summed(one, other), lot)

    def test_all_lots(self):
        for body in (F, P, drawn(5, 1)):
            sums = {summed(one, other) for one in slow_even(body) for other in slow_tears(body)}
            for lot in lots_in(edges_of(body)):
                told = split(body, lot)
                self.assertEqual(told is not None, lot in sums)
                if told is not None:
                    self.check(body, lot, told)
        sums = {summed(one, other) for one in slow_even(K) for other in slow_tears(K)}
        for lot in lots_in(edges_of(K))[::7]:
            self.assertEqual(split(K, lot) is not None, lot in sums)

    def test_all_edges_always_are_a_sum(self):
        for body in some_bodies(4, 12, 3) + [K, ball()]:
            for lot in (tuple(edges_of(body)), ()):
                self.check(body, lot, split(body, lot))

    def test_drawn_lots(self):
        for body in some_bodies(6, 12, 2) + [K, ball()]:
            bikes = bicycles(body)
            for seed in range(10):
                lot = drawn_lot(edges_of(body), seed)
                told = split(body, lot)
                # A lot is such a sum just if it has an even number of edges in common with each bicycle.
                self.assertEqual(told is not None, all(len(set(lot) & set(bike)) % 2 == 0 for bike in bikes))
                if told is not None:
                    self.check(body, lot, told)


class Bicycles(unittest.TestCase):
    def test_lists(self):
        for body in some_bodies(4, 7, 2) + [K]:
            told = sorted(set(slow_even(body)) & set(slow_tears(body)))
            self.assertEqual(bicycles(body), told)
            self.assertEqual(count_bicycles(body), len(told))
        for body in some_bodies(8, 12, 2) + [ball()]:
            told = sorted(lot for lot in slow_even(body) if is_tear(body, lot))
            self.assertEqual(bicycles(body), told)
            self.assertEqual(count_bicycles(body), len(told))

    def test_zigzags(self):
        for body in some_bodies(4, 12, 2) + [K, ball()]:
            self.assertEqual(zigzags(body), slow_zigzags(body))
            met = [edge for walk in zigzags(body) for edge in edges_on(walk)]
            self.assertEqual(sorted(met), sorted(edges_of(body) * 2))

    def test_what_holds_for_bicycles(self):
        for body in some_bodies(4, 12, 3) + [K, ball()]:
            many = count_bicycles(body)
            self.assertEqual(many, 2 ** (len(zigzags(body)) - 1))
            for on in ("corners", "faces"):
                self.assertEqual(many, 2 ** sum(item % 2 == 0 for item in invariants(body, on)))

    def test_kinds(self):
        for body in some_bodies(4, 12, 2) + [K, ball()]:
            bikes = bicycles(body)
            walks = [set(edges_on(walk)) for walk in zigzags(body)]
            odd = count_trees(body, "corners") % 2 == 1
            for edge in edges_of(body):
                kind = edge_kind(body, edge)
                self.assertEqual(kind == "both", any(edge in bike for bike in bikes))
                self.assertEqual(kind == "both", sum(edge in walk for walk in walks) == 2)
                if kind != "both":
                    one, other = split(body, (edge,))
                    self.assertEqual(kind, "rim" if edge in one else "tear")
                    self.assertNotEqual(edge in one, edge in other)
                else:
                    self.assertIsNone(split(body, (edge,)))
                if odd:
                    self.assertEqual(kind == "tear", trees_with(body, (edge,), ()) % 2 == 1)

    def test_all_sums_agree(self):
        for body in (F, P, drawn(5, 1), drawn(6, 1)):
            tears = set(slow_tears(body))
            for edge in edges_of(body):
                kinds = {"rim" if edge in lot else "tear" for lot in slow_even(body) if summed(lot, (edge,)) in tears}
                told = edge_kind(body, edge)
                self.assertEqual(kinds, {told} if told != "both" else set())


class Wrong(unittest.TestCase):
    def test_no_tears(self):
        for body in (F, P, K, ball()):
            lot = slow_tear(body, all_corners(body)[:2])
            wrong = [value for value in odd_values() + odd_integers() + bent(lot) if type(value) is not tuple or value]
            for number, value in enumerate(wrong + [lot[::-1], lot + lot, list(lot), tuple(edges_of(body)[:1])]):
                self.assertIs(is_tear(body, value), False, number)
                with self.assertRaises(InvalidTear, msg=number):
                    corners_of(body, value)

    def test_no_lots_of_corners(self):
        wrong = [all_corners(F), tuple(all_corners(F)[::-1]), ((0, 1, 2), (0, 1, 2)), (0, 1, 2), ((0, 1),),
                 ((0, 1, 4),), ((0, 1, True),), ((2, 1, 0),), ([0, 1, 2],), ((0, 1, 2), None), deep(tuple, 90),
                 (deep(tuple, 90),) * 2]
        for number, value in enumerate(wrong + [value for value in odd_values() if value != ()]):
            with self.assertRaises(InvalidCorners, msg=number):
                tear(F, value)

    def test_no_lots_of_edges(self):
        for number, value in enumerate([list(R), R[::-1], ((0, 4),), (0, 1)] + [item for item in odd_values()
                                                                              if item != ()]):
            with self.assertRaises(InvalidEdges, msg=number):
                split(F, value)

    def test_great_bodies(self):
        dice = random.Random(5)
        for body in (drum(10), ball(), drawn(12, dice.randrange(99))):
            self.assertEqual(sum(tear_sizes(body)), 2 ** 19)
            self.assertGreaterEqual(count_bicycles(body), 1)
