"""Rounds beside a round, rounds of edge hues, and what is known of lands."""

import random
import unittest
from itertools import combinations

from huesandrounds.edgehues import is_edge_hues
from huesandrounds.errors import InvalidFace, InvalidFacts, TooMany
from huesandrounds.landfacts import beside, hue_rounds, rounds_by_lands, surely_same
from huesandrounds.rounds import hues_by
from tests.brute import all_edge_hues, all_rounds, edges_of, lands_of
from tests.support import F, K, P, R, ball, drawn, odd_values, some_bodies


def are_together(body, tour, one, other):
    return any(one in land and other in land for land in lands_of(body, tour))


def slow_rounds(body, facts):
    return [tour for tour in all_rounds(body)
            if all(are_together(body, tour, one, other) is same for one, other, same in facts)]


class Beside(unittest.TestCase):
    def test_beside(self):
        met = set()
        for body in some_bodies(4, 12, 2) + [K, ball()]:
            known = all_rounds(body)
            for tour in known:
                hues = hues_by(body, tour)
                told = [tuple(edge for edge, hue in zip(edges_of(body), hues) if hue != gone) for gone in (0, 1)]
                self.assertEqual(beside(body, tour), sorted(some for some in told if some in known))
                self.assertNotIn(tour, beside(body, tour))
                met.add(len(beside(body, tour)))
        self.assertEqual(met, {0, 1, 2})

    def test_hue_rounds(self):
        for body in some_bodies(4, 9, 2) + [K]:
            known = all_rounds(body)
            for hues in all_edge_hues(body)[::3]:
                self.assertTrue(is_edge_hues(body, hues))
                told = hue_rounds(body, hues)
                self.assertIs(type(told), tuple)
                for both, tour in zip(((0, 1), (0, 2), (1, 2)), told):
                    some = tuple(edge for edge, hue in zip(edges_of(body), hues) if hue in both)
                    self.assertEqual(tour, some if some in known else None)


class Facts(unittest.TestCase):
    def test_single_facts(self):
        for body in some_bodies(4, 8, 1) + [K]:
            for one, other in combinations(range(len(body)), 2):
                for same in (True, False):
                    facts = ((one, other, same),)
                    self.assertEqual(rounds_by_lands(body, facts), slow_rounds(body, facts))

    def test_drawn_facts(self):
        dice = random.Random(3)
        met = {True: 0, False: 0, None: 0}
        for body in some_bodies(4, 8, 2) + [K]:
            for _ in range(40):
                rows = [tuple(sorted(dice.sample(range(len(body)), 2))) for _ in range(dice.randint(0, 6))]
                facts = tuple(row + (dice.random() < 0.5,) for row in rows)
                found = slow_rounds(body, facts)
                self.assertEqual(rounds_by_lands(body, facts), found)
                face, last = dice.randrange(len(body)), dice.randrange(len(body))
                told = {are_together(body, tour, face, last) for tour in found}
                worth = told.pop() if len(told) == 1 else None
                self.assertIs(surely_same(body, facts, face, last), worth)
                met[worth] += 1
        self.assertGreater(min(met.values()), 20)

    def test_edges_of_the_facts(self):
        for body in (F, P, K):
            self.assertEqual(rounds_by_lands(body, ()), all_rounds(body))
            same = ((0, 1, True),) * 6
            self.assertEqual(rounds_by_lands(body, same), slow_rounds(body, same))
            against = ((0, 1, True), (0, 1, False))
            self.assertEqual(rounds_by_lands(body, against), [])
            for face in range(len(body)):
                self.assertIs(surely_same(body, (), face, face), True)
                self.assertIsNone(surely_same(body, against, face, face))
        self.assertEqual(rounds_by_lands(F, ((0, 3, True),)), [R])

    def test_no_facts(self):
        for body in (F, K, ball()):
            most = len(body)
            wrong = [((1, 0, True),), ((0, 0, True),), ((0, most, True),), ((-1, 0, True),), ((0, 1, 1),), ((0, 1, 0),),
                     ((0, 1, None),), ((0, 1, "True"),), ((False, 1, True),), ((0, 1),), ((0, 1, True, True),),
                     ((0, 1, True),) * 7, [(0, 1, True)], ([0, 1, True],), (0, 1, True), ((0, 1, True), None)]
            odd = [value for value in odd_values() if type(value) is not tuple or len(value) > 0]
            for number, value in enumerate(wrong + odd):
                with self.assertRaises(InvalidFacts, msg=number):
                    rounds_by_lands(body, value)
                with self.assertRaises(InvalidFacts, msg=number):
                    surely_same(body, value, None, None)

    def test_too_many_faces_come_last(self):
        for body in (drawn(9, 1), ball()):
            for call, args in ((rounds_by_lands, ()), (surely_same, (0, len(body) - 1))):
                with self.assertRaises(TooMany) as caught:
                    call(body, (), *args)
                self.assertEqual(caught.exception.limit, 8)
            with self.assertRaises(InvalidFace):
                surely_same(body, (), 0, len(body))
            with self.assertRaises(InvalidFace):
                surely_same(body, (), -1, len(body))
