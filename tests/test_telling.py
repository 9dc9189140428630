"""Hues, rounds and pairings told by edges, and bodies told by numbers."""

import random
import unittest
from itertools import combinations

from huesandrounds.bodies import belts
from huesandrounds.edgehues import count_edge_hues, edge_hues
from huesandrounds.errors import InvalidEdges, InvalidFacts, InvalidNumber, TooMany
from huesandrounds.facehues import first_face_hues, to_edges
from huesandrounds.forms import bodies
from huesandrounds.lines import pairings
from huesandrounds.rounds import rounds
from huesandrounds.telling import (bodies_told, fewest_told, hues_told, pairings_told, rounds_told, surely, told_apart)
from tests.brute import edges_of
from tests.support import F, H, K, P, Q, deep, drawn, drum, odd_values, some_bodies

WORDS = ["belts", "fives", "fours", "hues", "pairings", "rounds", "threes"]


def facts_of(body, seed, many):
    """Drawn facts of edges, mostly those of some edge hues."""
    dice = random.Random(seed)
    hues = dice.choice(edge_hues(body))
    found = []
    for _ in range(many):
        at = dice.randrange(len(hues))
        found.append((edges_of(body)[at], hues[at] if dice.random() < 0.8 else dice.randrange(3)))
    return tuple(found)


def slow_told(body, facts):
    rows = [dict(zip(edges_of(body), hues)) for hues in edge_hues(body)]
    return [tuple(row.values()) for row in rows if all(row[edge] == hue for edge, hue in facts)]


def numbers_of(body):
    sides = [len(ring) for ring in body]
    return {"hues": count_edge_hues(body), "rounds": len(rounds(body)), "pairings": len(pairings(body)),
            "belts": len(belts(body)), "threes": sides.count(3), "fours": sides.count(4), "fives": sides.count(5)}


class Hues(unittest.TestCase):
    def test_told(self):
        none = 0
        for body in some_bodies(4, 7, 2) + [K, Q]:
            for seed in range(15):
                facts = facts_of(body, seed, seed % 7)
                told = slow_told(body, facts)
                none += not told
                self.assertEqual(hues_told(body, facts), told)
                for at, edge in list(enumerate(edges_of(body)))[::3]:
                    worths = {hues[at] for hues in told}
                    self.assertEqual(surely(body, facts, edge), worths.pop() if len(worths) == 1 else None)
        self.assertGreater(none, 10)

    def test_no_facts_and_the_same_again(self):
        for body in some_bodies(4, 7, 1):
            self.assertEqual(hues_told(body, ()), edge_hues(body))
            self.assertIsNone(surely(body, (), (0, body[0][0])))
            edge = edges_of(body)[-1]
            for hue in range(3):
                self.assertEqual(surely(body, ((edge, hue),) * 6, edge), hue)
                self.assertEqual(hues_told(body, ((edge, hue),) * 6), hues_told(body, ((edge, hue),)))
            self.assertEqual(hues_told(body, ((edge, 0), (edge, 1))), [])
            self.assertIsNone(surely(body, ((edge, 0), (edge, 1)), edge))

    def test_fewest(self):
        for body in some_bodies(4, 6, 2) + [K, drum(5)]:
            rows = edge_hues(body)
            for hues in rows[::5]:
                told = None
                for many in range(len(hues) + 1):
                    for some in combinations(range(len(hues)), many):
                        if sum(all(row[at] == hues[at] for at in some) for row in rows) == 1:
                            told = tuple(edges_of(body)[at] for at in some)
                            break
                    if told is not None:
                        break
                self.assertEqual(fewest_told(body, hues), told)
        for body in some_bodies(7, 7, 3):
            for hues in edge_hues(body)[::4]:
                told = fewest_told(body, hues)
                row = dict(zip(edges_of(body), hues))
                if len(told) <= 6:
                    self.assertEqual(hues_told(body, tuple((edge, row[edge]) for edge in told)), [hues])

    def test_limits(self):
        for body in (drawn(8, 1), drum(6), drum(10)):
            edge = edges_of(body)[0]
            for call, args in ((hues_told, ((),)), (surely, ((), edge)), (fewest_told, (edge_hues_of(body),)),
                               (rounds_told, ((), ())), (pairings_told, ((), ())), (told_apart, (F,))):
                with self.assertRaises(TooMany) as told:
                    call(body, *args)
                self.assertEqual(told.exception.limit, 7)
            with self.assertRaises(TooMany):
                told_apart(F, body)
            with self.assertRaises(InvalidFacts):
                hues_told(body, (edge, 0))

    def test_wrong_facts(self):
        wrong = [(((0, 1), 3),), (((0, 1), True),), (((1, 0), 0),), ((0, 1),), (((0, 1), 0),) * 7, [((0, 1), 0)],
                 (((0, 1), 0, 0),), (((0, True), 0),), (((0, 1), None),), deep(tuple, 90), (deep(tuple, 90),) * 2,
                 ((deep(tuple, 90), 0),), (((0, 1), deep(tuple, 90)),)]
        for number, value in enumerate(wrong + [value for value in odd_values() if type(value) is not tuple or value]):
            with self.assertRaises(InvalidFacts, msg=number):
                hues_told(F, value)
            with self.assertRaises(InvalidFacts, msg=number):
                surely(F, value, None)


def edge_hues_of(body):
    """Some edge hues of a body of any size."""
    return to_edges(body, first_face_hues(body))


class Lots(unittest.TestCase):
    def test_rounds_and_pairings(self):
        for body in some_bodies(4, 7, 2) + [K, Q]:
            dice = random.Random(len(body))
            for _ in range(20):
                ins = tuple(sorted(dice.sample(edges_of(body), dice.randint(0, 3))))
                outs = tuple(sorted(dice.sample(edges_of(body), dice.randint(0, 3))))
                for call, rows in ((rounds_told, rounds(body)), (pairings_told, pairings(body))):
                    told = [row for row in rows if set(ins) <= set(row) and not set(outs) & set(row)]
                    self.assertEqual(call(body, ins, outs), told)
            both = tuple(edges_of(body)[:1])
            self.assertEqual(rounds_told(body, both, both), [])
            self.assertEqual(pairings_told(body, both, both), [])
            self.assertEqual(rounds_told(body, (), ()), rounds(body))
            self.assertEqual(pairings_told(body, (), ()), pairings(body))
            self.assertEqual(pairings_told(body, tuple(edges_of(body)), ()), [])

    def test_no_edges(self):
        wrong = [((0, 2), (0, 1)), ((0, 1), (0, 1)), ((1, 0),), (0, 1), [(0, 1)], ((0, 9),), ((0, True),)]
        for call in (rounds_told, pairings_told):
            for number, value in enumerate(wrong + [value for value in odd_values() if value != ()]):
                with self.assertRaises(InvalidEdges, msg=number):
                    call(F, value, None)
                with self.assertRaises(InvalidEdges, msg=number):
                    call(F, (), value)


class Bodies(unittest.TestCase):
    def test_told(self):
        for faces in (4, 5, 6, 7):
            forms = bodies(faces)
            self.assertEqual(bodies_told(faces, ()), forms)
            rows = [numbers_of(form) for form in forms]
            for row in rows:
                for words in [()] + list(combinations(WORDS, 1)) + list(combinations(WORDS, 2))[::3]:
                    facts = tuple((word, row[word]) for word in words)
                    told = [form for form, other in zip(forms, rows) if all(other[word] == row[word] for word in words)]
                    self.assertEqual(bodies_told(faces, facts), told)

    def test_facts_again_and_against(self):
        self.assertEqual(bodies_told(4, (("hues", 6),) * 5), [F])
        self.assertEqual(bodies_told(4, (("hues", 6), ("hues", 7))), [])
        self.assertEqual(bodies_told(7, (("hues", 1000),)), [])
        self.assertEqual(bodies_told(7, (("threes", 0), ("fours", 5), ("fives", 2), ("belts", 0), ("rounds", 5))),
                         [form for form in bodies(7) if numbers_of(form)["fives"] == 2 and belts(form) == []])

    def test_told_apart(self):
        forms = [form for faces in (4, 5, 6, 7) for form in bodies(faces)]
        for one in forms:
            for other in forms:
                told = [word for word in WORDS if numbers_of(one)[word] != numbers_of(other)[word]]
                self.assertEqual(told_apart(one, other), told)

    def test_wrong_facts(self):
        wrong = [(("hue", 0),), (("hues", -1),), (("hues", 1001),), (("hues", True),), (("hues",),), (("hues", 1, 1),),
                 (("hues", 6),) * 6, [("hues", 6)], (["hues", 6],), ("hues", 6), ((6, "hues"),), (("", 0),),
                 ((None, 6),), (([], 6),), ((deep(tuple, 90), 6),), (("hues", deep(tuple, 90)),), (("sixes", 0),)]
        for number, value in enumerate(wrong + [value for value in odd_values() if type(value) is not tuple or value]):
            with self.assertRaises(InvalidFacts, msg=number):
                bodies_told(4, value)
            for faces in (3, 8, True, None, "4", 10 ** 119):
                with self.assertRaises(InvalidNumber, msg=number):
                    bodies_told(faces, value)
        self.assertEqual(hues_told(F, (((0, 1), 0), ((0, 2), 1))), [H])
        self.assertEqual(told_apart(P, P), [])
