"""Renumbering, plain forms, own turns and all bodies of few faces."""

import random
import unittest

from huesandrounds.bodies import counts_of, is_body
from huesandrounds.cutting import cut, healed, seams, spots
from huesandrounds.errors import InvalidFace, InvalidNumber, InvalidTurning
from huesandrounds.forms import alike, bodies, is_own_mirror, mirrored, own_turns, plain, renumbered
from tests.brute import all_own_turns
from tests.support import F, K, P, Q, ball, drawn, drum, renamed, some_bodies, turned_to_least


def slow_renumbered(body, start, after, turning):
    """Renumbering by the words of the document."""
    rings = [list(ring)[::turning] for ring in body]
    number = {start: 0, after: 1}
    source = {start: after, after: start}
    for new in range(len(body)):
        face = [item for item in number if number[item] == new][0]
        ring = rings[face]
        at = ring.index(source[face])
        for item in ring[at + 1:] + ring[:at]:
            if item not in number:
                number[item] = len(number)
                source[item] = face
    found = [None] * len(body)
    for face, ring in enumerate(rings):
        found[number[face]] = turned_to_least([number[item] for item in ring])
    return tuple(found)


def all_ways(body):
    return [(face, other, turning) for face in range(len(body)) for other in body[face] for turning in (1, -1)]


class Renumbered(unittest.TestCase):
    def test_all_ways(self):
        for body in some_bodies(4, 12, 2) + [ball(), Q]:
            rows = [renumbered(body, *way) for way in all_ways(body)]
            self.assertEqual(rows, [slow_renumbered(body, *way) for way in all_ways(body)])
            self.assertTrue(all(is_body(row) for row in rows))
            self.assertEqual(plain(body), min(rows))

    def test_plain_forms_are_the_least_of_all(self):
        for body in some_bodies(5, 12, 8) + [K, ball(), mirrored(drawn(11, 3))]:
            self.assertEqual(plain(body), min(renumbered(body, *way) for way in all_ways(body)))

    def test_faces_that_are_not_around_one_another(self):
        for start, after in ((0, 4), (4, 0), (0, 0), (4, 4)):
            with self.assertRaises(InvalidFace):
                renumbered(P, start, after, 1)
            with self.assertRaises(InvalidFace):
                renumbered(P, start, after, 0)

    def test_turnings(self):
        for turning in (0, 2, -2, True, None, "1", (1,), 10 ** 119):
            with self.assertRaises(InvalidTurning):
                renumbered(P, 0, 1, turning)


class Plain(unittest.TestCase):
    def test_names_and_turnings_do_not_matter(self):
        dice = random.Random(5)
        for body in some_bodies(4, 12):
            names = list(range(len(body)))
            dice.shuffle(names)
            other = renamed(body, names)
            self.assertEqual(plain(other), plain(body))
            self.assertEqual(plain(mirrored(other)), plain(body))
            self.assertEqual(plain(plain(body)), plain(body))
            self.assertIs(alike(other, mirrored(body)), True)

    def test_unlike_bodies(self):
        for faces in range(5, 13):
            found = [drawn(faces, seed) for seed in range(6)]
            for one in found:
                for other in found:
                    self.assertIs(alike(one, other), plain(one) == plain(other))
                    if counts_of(one) != counts_of(other):
                        self.assertIs(alike(one, other), False)
        self.assertFalse(alike(drum(10), ball()))

    def test_mirrored(self):
        for body in some_bodies(4, 12):
            self.assertTrue(all(ring[1:] == other[:0:-1] for ring, other in zip(body, mirrored(body))))
            self.assertEqual(mirrored(mirrored(body)), body)


class OwnTurns(unittest.TestCase):
    def test_against_all_tried(self):
        for body in some_bodies(4, 7, 2) + [Q]:
            slow = all_own_turns(body)
            self.assertEqual(own_turns(body), [turn for turn, _ in slow])
            self.assertIs(is_own_mirror(body), any(rings == mirrored(body) for _, rings in slow))

    def test_how_many(self):
        self.assertEqual([len(own_turns(drum(sides))) for sides in range(3, 11)], [12, 48, 20, 24, 28, 32, 36, 40])
        self.assertEqual(len(own_turns(ball())), 120)

    def test_no_own_mirror(self):
        found = [drawn(faces, seed) for faces in range(8, 13) for seed in range(10)]
        skew = [body for body in found if not is_own_mirror(body)]
        self.assertTrue(skew)
        self.assertTrue([body for body in found if is_own_mirror(body)])
        for body in skew:
            self.assertFalse(any(renamed(body, turn) == mirrored(body) for turn in own_turns(body)))

    def test_the_identity_is_one(self):
        for body in some_bodies(4, 12):
            turns = own_turns(body)
            self.assertEqual(turns[0], tuple(range(len(body))))
            self.assertEqual(turns, sorted(set(turns)))
            self.assertTrue(all(renamed(body, turn) in (body, mirrored(body)) for turn in turns))


class Bodies(unittest.TestCase):
    def test_all_cuts_lead_there(self):
        for faces in (5, 6, 7):
            forms = {plain(cut(body, spot)) for body in bodies(faces - 1) for spot in spots(body)}
            self.assertEqual(bodies(faces), sorted(forms))
            self.assertTrue(all(plain(drawn(faces, seed)) in forms for seed in range(20)))

    def test_all_seams_lead_down(self):
        for faces in (5, 6, 7):
            for body in bodies(faces):
                self.assertEqual(plain(body), body)
                for seam in seams(body):
                    self.assertIn(plain(healed(body, seam)), bodies(faces - 1))

    def test_all_tried_for_six(self):
        self.assertEqual(bodies(4), [F])
        self.assertEqual(bodies(5), [P])
        self.assertEqual([counts_of(body) for body in bodies(6)], [(2, 2, 2), (0, 6)])
        self.assertEqual(bodies(6)[1], plain(K))

    def test_numbers(self):
        for faces in (3, 8, 0, -4, None, True, "5", (5,), 10 ** 119):
            with self.assertRaises(InvalidNumber):
                bodies(faces)
