"""Bodies and edge hues as values."""

import unittest

from huesandrounds.benches import Bench
from huesandrounds.cutting import cut, healed, seams, spots
from huesandrounds.edgehues import chain, edge_hues, exchanged, families, hue_rings, steps
from huesandrounds.errors import (InvalidBody, InvalidCorner, InvalidEdge, InvalidFace, InvalidHue, InvalidHues,
                                  InvalidNumber, InvalidSeam, InvalidSpot, InvalidStep, InvalidText, NoSeam, TooMany,
                                  Unlike)
from huesandrounds.facehues import count_face_hues, three_hues
from huesandrounds.forms import alike, mirrored, plain
from huesandrounds.putting import joined_counts, put_together
from huesandrounds.rounds import rounds
from huesandrounds.stands import done
from huesandrounds.texts import body_text, hues_text
from huesandrounds.values import Body, Hues
from tests.brute import corners_of, edges_of
from tests.calls import FALSE_FRIENDS
from tests.support import (F, H, K, P, Q, R, X, ball, bent, deep, drawn, drum, odd_integers, odd_values, pair,
                           some_bodies)
from tests.test_stands import drawn_stand, stands

OTHERS = [None, 5, "1 2 3", F, [F], H, X, R, True, InvalidBody("odd")]


def iterate(value):
    return [item for item in value]


class Bodies(unittest.TestCase):
    def test_made_and_read(self):
        for body in some_bodies(4, 12, 2) + [K, Q, ball()]:
            value = Body(*body)
            self.assertEqual(value.source, body)
            self.assertEqual(str(value), body_text(body))
            self.assertEqual(Body.read(str(value)), value)
            self.assertIs(type(Body.read(str(value))), Body)
        self.assertEqual(Body.MOST, 12)
        for number, value in enumerate(odd_values() + FALSE_FRIENDS["body"](K)):
            with self.assertRaises(InvalidBody, msg=number):
                Body(value)
            if type(value) in (tuple, list) and len(value) < 20:
                with self.assertRaises(InvalidBody, msg=number):
                    Body(*value)
            with self.assertRaises(InvalidText, msg=number):
                Body.read(value)
        for rings in ((), F[:3], F + F, F[::-1], tuple(map(list, F))):
            with self.assertRaises(InvalidBody):
                Body(*rings)
        for text in ("", "1 2 3", str(F), body_text(F) + " "):
            with self.assertRaises(InvalidText):
                Body.read(text)

    def test_cut_and_healed(self):
        for body in some_bodies(4, 9, 1) + [K]:
            value = Body(*body)
            for spot in spots(body)[::3]:
                self.assertEqual((value ^ spot).source, cut(body, spot))
            for seam in seams(body):
                self.assertEqual((value - seam).source, healed(body, seam))
            self.assertEqual((~value).source, mirrored(body))
            self.assertEqual(~~value, value)
            self.assertEqual(value.source, body)
        for body in (ball(), drum(10), drawn(12, 1)):
            for spot in spots(body)[::9]:
                with self.assertRaises(TooMany) as told:
                    Body(*body) ^ spot
                self.assertEqual(told.exception.limit, 12)

    def test_changed_itself(self):
        value = other = Body(*F)
        held = [value]
        kept = Body(*F)
        value ^= ((0, 1, 2), -1)
        self.assertIs(value, other)
        self.assertIs(held[0], value)
        self.assertEqual(other.source, cut(F, ((0, 1, 2), -1)))
        self.assertEqual(kept.source, F)
        self.assertNotEqual(value, kept)
        for wrong in odd_values() + [((0, 1, 2), 3), (9, -1)]:
            with self.assertRaises(InvalidSpot):
                value ^= wrong
        self.assertEqual(value.source, cut(F, ((0, 1, 2), -1)))
        value = other = Body(*ball())
        with self.assertRaises(TooMany):
            value ^= ((0, 1, 2), -1)
        self.assertEqual(other.source, ball())
        # All other signs make new objects.
        value = other = Body(*P)
        value -= (4, -1)
        self.assertIsNot(value, other)
        self.assertEqual((value.source, other.source), (F, P))
        value = other = Body(*P)
        value += Body(*F)
        self.assertEqual((len(value.source), other.source), (6, P))

    def test_together(self):
        for one in some_bodies(4, 8, 1):
            for other in some_bodies(4, 7, 1):
                corners = corners_of(one)[0], corners_of(other)[0]
                if len(one) + len(other) <= 15:
                    told = put_together(one, corners[0], other, corners[1])
                    self.assertEqual((Body(*one) + Body(*other)).source, told)
                hues, _, tours, _ = joined_counts(one, corners[0], other, corners[1])
                self.assertEqual(Body(*one) | Body(*other), (hues, tours))
        unlike = 0
        bodies = [drawn(faces, seed) for faces in (9, 10) for seed in range(3)]
        for one in bodies:
            for other in bodies:
                numbers = [[joined_counts(one, corner, other, last)[2] for last in corners_of(other)[:2]]
                           for corner in corners_of(one)[:2]]
                self.assertEqual((Body(*one) | Body(*other))[1], numbers[0][0])
                unlike += numbers[0][0] not in (numbers[0][1], numbers[1][0])
        self.assertGreater(unlike, 3)
        for one, other in ((ball(), F), (drum(8), drum(4)), (ball(), ball())):
            with self.assertRaises(TooMany) as told:
                Body(*one) + Body(*other)
            self.assertEqual(told.exception.limit, 12)
            self.assertEqual(len(Body(*one) | Body(*other)), 2)
        value = Body(*P)
        self.assertEqual(len((value + value).source), 7)

    def test_others(self):
        for value in (Body(*F), Body(*ball())):
            for number, other in enumerate(OTHERS + odd_values() + [Hues(F, *H), Bench(X), ball()]):
                if type(other) is Body:
                    continue
                for call in (lambda: value + other, lambda: value | other, lambda: value.like(other)):
                    with self.assertRaises(Unlike, msg=number):
                        call()

    def test_called(self):
        for body in some_bodies(4, 10, 1) + [K]:
            for many in (0, 1, 2, 3, 4, 10 ** 12):
                self.assertEqual(Body(*body)(many), count_face_hues(body, many))
        for number, many in enumerate(odd_values() + [-1, 10 ** 12 + 1, 10 ** 119]):
            for body in (F, ball()):
                with self.assertRaises(InvalidNumber, msg=number):
                    Body(*body)(many)
        for body in (drawn(11, 1), ball()):
            with self.assertRaises(TooMany) as told:
                Body(*body)(4)
            self.assertEqual(told.exception.limit, 10)

    def test_items_and_members(self):
        for body in some_bodies(4, 12, 1) + [K, ball()]:
            value = Body(*body)
            self.assertEqual([value[face] for face in range(len(body))], list(body))
            tours = rounds(body)
            self.assertEqual(len(value), len(tours))
            self.assertTrue(all(tour in value for tour in tours))
            for number, wrong in enumerate(odd_values() + odd_integers() + bent(tours[0]) + [list(tours[0])]):
                self.assertIs(wrong in value, False, number)
            self.assertIs(bool(value), three_hues(body) is not None)
            for number, wrong in enumerate(odd_values() + [-1, len(body), 10 ** 119]):
                with self.assertRaises(InvalidFace, msg=number):
                    value[wrong]
            self.assertRaises(InvalidFace, lambda: value[0:2])

    def test_wrong_spots_and_seams(self):
        for body in (F, K, ball()):
            value = Body(*body)
            for number, wrong in enumerate(odd_values() + odd_integers() + FALSE_FRIENDS["spot"](body)[:8]):
                with self.assertRaises(InvalidSpot, msg=number):
                    value ^ wrong
                with self.assertRaises(InvalidSeam, msg=number):
                    value - wrong
            self.assertEqual(value.source, body)

    def test_like_and_equal(self):
        bodies = some_bodies(4, 8, 2) + [K, mirrored(drawn(8, 1))]
        for one in bodies:
            for other in bodies:
                self.assertIs(Body(*one).like(Body(*other)), plain(one) == plain(other))
                self.assertIs(Body(*one) == Body(*other), one == other)
                self.assertIs(Body(*one) != Body(*other), one != other)
            self.assertTrue(Body(*one).like(Body(*plain(one))))
            self.assertTrue(alike(one, plain(one)))
            value = Body(*one)
            for other in OTHERS + [one, list(one), Hues(F, *H), Bench(X), str(value)]:
                self.assertIs(value == other, False)
                self.assertIs(value != other, True)
                self.assertIs(other == value, False)

    def test_no_iterating(self):
        for value in (Body(*F), Hues(F, *H), Bench(X)):
            for call in (iter, list, tuple, sorted, iterate, sum, lambda item: [*item],
                         lambda item: dict(enumerate(item))):
                with self.assertRaises(TypeError):
                    call(value)


class Edges(unittest.TestCase):
    def all_values(self):
        return [Hues(stand[0], *stand[1]) for stand in stands()]

    def test_made_and_read(self):
        for value in self.all_values():
            self.assertEqual(str(value), hues_text(value.body, value.source))
            self.assertEqual(Hues.read(value.body, str(value)), value)
            self.assertEqual(Hues(value.body, *value.source), value)
        for number, wrong in enumerate(odd_values() + FALSE_FRIENDS["body"](K)):
            with self.assertRaises(InvalidBody, msg=number):
                Hues(wrong, *H)
            with self.assertRaises(InvalidBody, msg=number):
                Hues.read(wrong, None)
            with self.assertRaises(InvalidHues, msg=number):
                Hues(F, wrong)
            with self.assertRaises(InvalidText, msg=number):
                Hues.read(F, wrong)
        for hues in ((), H[1:], H + H, (0,) * 6, (0, 1, 2, 2, 1, True), (H,), ("0",) * 6):
            with self.assertRaises(InvalidHues):
                Hues(F, *hues)
        for text in ("", "01221", "012211", "0122100"):
            with self.assertRaises(InvalidText):
                Hues.read(F, text)

    def test_led_on(self):
        for stand in stands(4, 9):
            body, hues, _, _ = stand
            value = Hues(body, *hues)
            for at, edge in list(enumerate(edges_of(body)))[::2]:
                for hue in range(3):
                    step = ("exchange", edge, hue)
                    if hue == hues[at]:
                        with self.assertRaises(InvalidHue):
                            value ^ step
                    else:
                        self.assertEqual((value ^ step).source, exchanged(body, hues, edge, hue))
                        self.assertEqual((value ^ step).source, done(stand, step)[1])
            for order in ((0, 1, 2), (1, 2, 0), (2, 1, 0)):
                self.assertEqual((value ^ ("rename", order)).source, tuple(order[hue] for hue in hues))
            self.assertEqual((value.body, value.source), (body, hues))

    def test_wrong_steps(self):
        value = Hues(K, *edge_hues(K)[0])
        steps_of_others = [("paint",), ("flip", (0, 1)), ("flop", (0, 1)), ("graft", (0, 1), (0, 2)), ("trace", 1),
                           ("cut", (0, 1, 2)), ("heal", 0)]
        for number, wrong in enumerate(odd_values() + odd_integers() + FALSE_FRIENDS["step"](None) + steps_of_others):
            with self.assertRaises(InvalidStep, msg=number):
                value ^ wrong
        for edge in ((0, 5), (1, 3), (0, 6), (10, 11)):
            with self.assertRaises(InvalidEdge):
                value ^ ("exchange", edge, 0)

    def test_changed_itself(self):
        value = other = Hues(F, *H)
        value ^= ("exchange", (0, 1), 1)
        self.assertIs(value, other)
        self.assertEqual(other.source, exchanged(F, H, (0, 1), 1))
        self.assertEqual(other.body, F)
        value ^= ("rename", (2, 1, 0))
        self.assertEqual(other, Hues(F, *[(2, 1, 0)[hue] for hue in exchanged(F, H, (0, 1), 1)]))
        kept = other.source
        for wrong, error in ((("exchange", (0, 4), 1), InvalidEdge), (("exchange", (0, 1), value[(0, 1)]), InvalidHue),
                             (("paint",), InvalidStep), (None, InvalidStep)):
            with self.assertRaises(error):
                value ^= wrong
        self.assertIs(value, other)
        self.assertEqual(other.source, kept)
        value += (0, 1, 2)
        self.assertIsNot(value, other)
        self.assertEqual((len(value.body), other.body), (5, F))

    def test_cut_and_healed(self):
        for stand in stands(4, 12, 1):
            body, hues, tour, _ = stand
            value = Hues(body, *hues)
            for corner in corners_of(body)[::2]:
                if len(body) == 12:
                    with self.assertRaises(TooMany) as told:
                        value + corner
                    self.assertEqual(told.exception.limit, 12)
                    continue
                told = done(stand, ("cut", corner))
                self.assertEqual(((value + corner).body, (value + corner).source), told[:2])
                self.assertEqual((value + corner) - len(body), value)
            for face, ring in enumerate(body):
                if len(ring) != 3 or len(body) == 4:
                    with self.assertRaises(NoSeam):
                        value - face
                else:
                    told = healed(body, (face, -1))
                    self.assertEqual((value - face).body, told)
                    rest = [hue for edge, hue in zip(edges_of(body), hues) if face not in edge]
                    self.assertEqual((value - face).source, tuple(rest))
            for number, wrong in enumerate(odd_values() + odd_integers() + FALSE_FRIENDS["corner"](body)):
                with self.assertRaises(InvalidCorner, msg=number):
                    value + wrong
            for number, wrong in enumerate(odd_values() + odd_integers()):
                with self.assertRaises(InvalidFace, msg=number):
                    value - wrong
            self.assertEqual(((~value).body, (~value).source), (mirrored(body), hues))
            self.assertEqual(~~value, value)

    def test_called(self):
        for value in self.all_values():
            row = dict(zip(edges_of(value.body), value.source))
            for face, ring in enumerate(value.body):
                self.assertEqual(value(face), "".join(str(row[pair(face, other)]) for other in ring))
            for edge in edges_of(value.body):
                self.assertEqual(value[edge], row[edge])
            for number, wrong in enumerate(odd_values() + [-1, len(value.body), 10 ** 119]):
                with self.assertRaises(InvalidFace, msg=number):
                    value(wrong)
            for number, wrong in enumerate(odd_values() + odd_integers() + FALSE_FRIENDS["edge"](value.body)):
                with self.assertRaises(InvalidEdge, msg=number):
                    value[wrong]

    def test_members(self):
        for value in self.all_values():
            body, hues = value.body, value.source
            rings = [ring for hue in range(3) for ring in hue_rings(body, hues, hue)]
            self.assertEqual(len(value), len(rings))
            self.assertTrue(all(ring in value for ring in rings))
            self.assertIs(bool(value), any(len(hue_rings(body, hues, hue)) == 1 for hue in range(3)))
            edge = edges_of(body)[3]
            self.assertIn(chain(body, hues, edge, (value[edge] + 1) % 3), value)
            for number, wrong in enumerate(odd_values() + odd_integers() + bent(rings[0]) + [list(rings[0]), rings,
                                                                                             rings[0][::-1]]):
                self.assertIs(wrong in value, False, number)
        odd = tuple(tuple(item == 1 or item for item in edge) for edge in R)
        self.assertEqual(odd, R)
        self.assertFalse(odd in Hues(F, *H))
        self.assertTrue(R in Hues(F, *H))

    def test_some_two_hues_are_one_chain(self):
        found = set()
        for body in some_bodies(7, 9, 3) + [K]:
            for hues in edge_hues(body)[::3]:
                ones = tuple(len(hue_rings(body, hues, hue)) == 1 for hue in range(3))
                self.assertIs(bool(Hues(body, *hues)), any(ones))
                found.add(ones)
        # None, each of the three alone, and all of them.
        self.assertGreaterEqual(found, {(False,) * 3, (True, False, False), (False, True, False), (False, False, True),
                                        (True,) * 3})

    def test_kin(self):
        for body in some_bodies(4, 7, 1) + [K]:
            rows = edge_hues(body)
            for one in rows[::7]:
                for other in rows[::5]:
                    told = steps(body, one, other) is not None
                    self.assertIs(Hues(body, *one).kin(Hues(body, *other)), told)
            self.assertEqual(families(body) == 1, all(Hues(body, *rows[0]).kin(Hues(body, *row)) for row in rows))
        for body in (drawn(8, 1), ball()):
            value = Hues(*drawn_stand(body, 1)[:1], *drawn_stand(body, 1)[1])
            with self.assertRaises(TooMany) as told:
                value.kin(value)
            self.assertEqual(told.exception.limit, 7)
        for value in (Hues(F, *H), Hues(*drawn_stand(ball(), 1)[:1], *drawn_stand(ball(), 1)[1])):
            for number, other in enumerate(OTHERS + [Hues(P, *edge_hues(P)[0]), Body(*F), Bench(X), ~Hues(F, *H)] +
                                           [item for item in odd_values() if type(item) is not Hues]):
                with self.assertRaises(Unlike, msg=number):
                    value.kin(other)

    def test_equal(self):
        rows = edge_hues(P)
        for one in rows:
            for other in rows:
                self.assertIs(Hues(P, *one) == Hues(P, *other), one == other)
                self.assertIs(Hues(P, *one) != Hues(P, *other), one != other)
        value = Hues(F, *H)
        self.assertNotEqual(value, ~value)
        for other in OTHERS + [H, list(H), (F, H), Body(*F), Bench(X), str(value), deep(tuple, 90)]:
            self.assertIs(value == other, False)
            self.assertIs(value != other, True)
