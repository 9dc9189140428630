"""Edge hues, their chains, kinds and families."""

import unittest
from itertools import combinations, permutations

from huesandrounds.bodies import corners, edges
from huesandrounds.cutting import cut
from huesandrounds.edgehues import (chain, count_edge_hues, edge_hues, exchanged, families, hue_edges, hue_rings,
                                    is_edge_hues, is_perfect, kind_size, kinds, paths_from, steps)
from huesandrounds.errors import InvalidHue, TooMany
from huesandrounds.forms import own_turns
from tests.brute import all_edge_hues, classes, edges_at, edges_of, ends_of
from tests.support import F, K, P, ball, bent, drawn, drum, odd_integers, odd_values, pair, some_bodies


def slow_chain(body, hues, edge, hue):
    """The chain, walked from corner to corner."""
    told = dict(zip(edges_of(body), hues))
    both = (told[edge], hue)
    met = []
    ahead = [edge]
    while ahead:
        here = ahead.pop()
        if here not in met:
            met.append(here)
            near = [item for corner in ends_of(body, here) for item in edges_at(corner)]
            ahead.extend(item for item in near if told[item] in both)
    return tuple(sorted(met))


def slow_exchanged(body, hues, edge, hue):
    met = slow_chain(body, hues, edge, hue)
    own = hues[edges_of(body).index(edge)]
    return tuple({own: hue, hue: own}[item] if place in met else item for place, item in zip(edges_of(body), hues))


def all_exchanges(body, hues):
    return {slow_exchanged(body, hues, edge, hue)
            for edge, own in zip(edges_of(body), hues) for hue in range(3) if hue != own}


class EdgeHues(unittest.TestCase):
    def test_lists_and_numbers(self):
        for body in some_bodies(4, 9):
            slow = all_edge_hues(body)
            self.assertEqual(edge_hues(body), slow)
            self.assertEqual(count_edge_hues(body), len(slow))
            self.assertTrue(all(is_edge_hues(body, hues) is True for hues in slow))

    def test_numbers_of_great_bodies(self):
        for body in some_bodies(10, 12, 2) + [ball()]:
            self.assertEqual(count_edge_hues(body), len(all_edge_hues(body)))
        self.assertEqual([count_edge_hues(drum(sides)) for sides in (8, 9, 10)], [264, 510, 1032])
        self.assertEqual(count_edge_hues(ball()), 60)

    def test_no_edge_hues(self):
        for body in (F, P, K, drum(10)):
            for hues in all_edge_hues(body)[:4]:
                for number, value in enumerate(odd_values() + odd_integers() + bent(hues)):
                    self.assertIs(is_edge_hues(body, value), False, number)
                for at in range(len(hues)):
                    for hue in (-1, 3, (hues[at] + 1) % 3, (hues[at] + 2) % 3):
                        self.assertFalse(is_edge_hues(body, hues[:at] + (hue,) + hues[at + 1:]))

    def test_nine_faces_are_the_most(self):
        self.assertEqual(len(edge_hues(drum(7))), count_edge_hues(drum(7)))
        with self.assertRaises(TooMany) as told:
            edge_hues(drum(8))
        self.assertEqual(told.exception.limit, 9)

    def test_a_corner_cut_off(self):
        for body in some_bodies(4, 11, 2):
            for corner in corners(body)[::3]:
                self.assertEqual(count_edge_hues(cut(body, (corner, -1))), count_edge_hues(body))


class Chains(unittest.TestCase):
    def test_chains_and_exchanges(self):
        for body in some_bodies(4, 8, 2) + [drum(10), ball()]:
            for hues in all_edge_hues(body)[::37]:
                for edge, own in zip(edges(body), hues):
                    for hue in range(3):
                        if hue != own:
                            self.assertEqual(chain(body, hues, edge, hue), slow_chain(body, hues, edge, hue))
                            other = exchanged(body, hues, edge, hue)
                            self.assertEqual(other, slow_exchanged(body, hues, edge, hue))
                            self.assertTrue(is_edge_hues(body, other))
                            self.assertEqual(exchanged(body, other, edge, own), hues)

    def test_the_own_hue(self):
        for body in (F, K):
            hues = edge_hues(body)[0]
            for edge, own in zip(edges(body), hues):
                for hue in (own, -1, 3):
                    for call in (chain, exchanged):
                        with self.assertRaises(InvalidHue):
                            call(body, hues, edge, hue)

    def test_edges_and_rings(self):
        for body in some_bodies(4, 8, 2) + [drum(10), ball()]:
            for hues in all_edge_hues(body)[::29]:
                rings = []
                for hue in range(3):
                    some = hue_edges(body, hues, hue)
                    self.assertEqual(some, tuple(edge for edge, own in zip(edges(body), hues) if own == hue))
                    self.assertEqual(len(some), len(body) - 2)
                    others = [edge for edge in edges(body) if edge not in some]
                    one = (hue + 1) % 3
                    slow = {slow_chain(body, hues, edge, 3 - hue - hues[edges(body).index(edge)]) for edge in others}
                    self.assertEqual(hue_rings(body, hues, hue), sorted(slow), one)
                    rings.append(len(slow))
                self.assertIs(is_perfect(body, hues), rings == [1, 1, 1])

    def test_perfect_or_not(self):
        self.assertTrue(all(is_perfect(F, hues) for hues in edge_hues(F)))
        self.assertEqual({is_perfect(K, hues) for hues in edge_hues(K)}, {False})
        self.assertEqual({is_perfect(ball(), hues) for hues in all_edge_hues(ball())}, {True})
        some = [(body, hues) for body in some_bodies(6, 8) for hues in edge_hues(body)]
        self.assertEqual({is_perfect(body, hues) for body, hues in some}, {True, False})
        # One ring for some two hues alone is not enough.
        partly = [row for row in some if len(hue_rings(*row, 2)) == 1 and not is_perfect(*row)]
        self.assertTrue(partly)


class Kinds(unittest.TestCase):
    def kinds_of(self, body):
        places = edges(body)

        def moves(hues):
            for turn in own_turns(body):
                led = {pair(turn[a], turn[b]): hue for (a, b), hue in zip(places, hues)}
                for order in permutations(range(3)):
                    yield tuple(order[led[edge]] for edge in places)

        return classes(all_edge_hues(body), moves)

    def test_kinds(self):
        for body in some_bodies(4, 7, 2) + [K]:
            slow = self.kinds_of(body)
            self.assertEqual(kinds(body), sorted(min(lot) for lot in slow))
            for lot in slow:
                self.assertTrue(all(kind_size(body, hues) == len(lot) for hues in lot))

    def test_seven_faces_are_the_most(self):
        body = drawn(8, 0)
        hues = edge_hues(body)[0]
        for call, args in ((kinds, (body,)), (kind_size, (body, hues)), (families, (body,)),
                           (steps, (body, hues, hues))):
            with self.assertRaises(TooMany) as told:
                call(*args)
            self.assertEqual(told.exception.limit, 7)


class Families(unittest.TestCase):
    def test_families(self):
        for body in some_bodies(4, 7, 2) + [K]:
            slow = classes(all_edge_hues(body), lambda hues: all_exchanges(body, hues))
            self.assertEqual(families(body), len(slow))

    def test_steps(self):
        for body in some_bodies(4, 7, 1) + [K]:
            start = edge_hues(body)[-1]
            far = {start: 0}
            ahead = [start]
            for here in ahead:
                for other in sorted(all_exchanges(body, here)):
                    if other not in far:
                        far[other] = far[here] + 1
                        ahead.append(other)
            for aim in edge_hues(body):
                way = steps(body, start, aim)
                if aim not in far:
                    self.assertIsNone(way)
                    continue
                self.assertIs(type(way), tuple)
                self.assertEqual(len(way), far[aim])
                here = start
                for edge, hue in way:
                    here = exchanged(body, here, edge, hue)
                self.assertEqual(here, aim)

    def test_several_families(self):
        # All bodies of at most seven faces are of one family; greater ones show that families are told apart.
        body = ball()
        slow = classes(all_edge_hues(body), lambda hues: all_exchanges(body, hues))
        self.assertGreater(len(slow), 1)
        for lot in slow:
            self.assertEqual(set(paths_from(body, min(lot))), lot)

    def test_all_pairs_of_three_hues_are_tried(self):
        for body in (P, K):
            for one, other in combinations(edge_hues(body)[:8], 2):
                self.assertEqual(len(steps(body, one, other)), len(steps(body, other, one)))
