"""Bodies put together and parted, and what becomes of their numbers."""

import random
import unittest

from huesandrounds.bodies import belts, is_body
from huesandrounds.cutting import cut
from huesandrounds.edgehues import count_edge_hues
from huesandrounds.errors import InvalidBelt, InvalidBody, InvalidCorner, InvalidNumber, TooMany
from huesandrounds.facehues import count_face_hues
from huesandrounds.forms import alike, mirrored, plain
from huesandrounds.pairings import count_pairings
from huesandrounds.polynomials import polynomial, value_at
from huesandrounds.putting import joined_counts, joined_face_hues, left_out, parted, parts, put_together
from huesandrounds.rounds import count_rounds, rounds
from huesandrounds.signs import count_signs
from tests.brute import corners_of, edges_at, turned_of
from tests.support import F, K, P, Q, ball, bent, drawn, drum, odd_integers, odd_values, some_bodies


def pairs(most, each=1):
    """Pairs of bodies, with a corner of each, that have at most so many faces together."""
    dice = random.Random(most)
    bodies = some_bodies(4, 9, each) + [K, mirrored(drawn(7, 2))]
    for one in bodies:
        for other in bodies:
            if len(one) + len(other) - 3 <= most:
                yield one, dice.choice(corners_of(one)), other, dice.choice(corners_of(other))


def slow_together(one, corner, other, last):
    """Both bodies put together, ring by ring."""
    a, b, c = turned_of(one)[corner]
    x, y, z = turned_of(other)[last]
    name = {x: a, y: c, z: b}
    for face in range(len(other)):
        name.setdefault(face, len(one) + len(name) - 3)
    rings = list(map(list, one)) + [None] * (len(other) - 3)
    for face, ring in enumerate(other):
        if face not in (x, y, z):
            rings[name[face]] = [name[item] for item in ring]
    # In each ring of the corner, all that lies between the two other faces in the other body comes between them.
    for face, own, first, second in ((a, x, z, y), (b, z, y, x), (c, y, x, z)):
        ring = other[own]
        ring = ring[ring.index(first):] + ring[:ring.index(first)]
        between = [name[item] for item in ring[1:ring.index(second)]]
        at = rings[face].index(name[first])
        rings[face][at + 1:at + 1] = between
    return tuple(tuple(ring[ring.index(min(ring)):] + ring[:ring.index(min(ring))]) for ring in rings)


class Together(unittest.TestCase):
    def test_ring_by_ring(self):
        many = 0
        for one, corner, other, last in pairs(12, 2):
            told = put_together(one, corner, other, last)
            self.assertEqual(told, slow_together(one, corner, other, last))
            self.assertIs(is_body(told), True)
            self.assertEqual(len(told), len(one) + len(other) - 3)
            many += 1
        self.assertGreater(many, 100)

    def test_all_corners(self):
        for one, other in ((F, P), (P, F), (P, Q), (K, F), (F, K)):
            for corner in corners_of(one):
                for last in corners_of(other):
                    told = put_together(one, corner, other, last)
                    self.assertEqual(told, slow_together(one, corner, other, last))
                    if other == F:
                        self.assertEqual(told, cut(one, (corner, -1)))
                    if one == F:
                        self.assertTrue(alike(told, cut(other, (last, -1))))

    def test_numbers(self):
        for one, corner, other, last in pairs(12):
            told = put_together(one, corner, other, last)
            numbers = (count_edge_hues(told), count_signs(told), count_rounds(told), count_pairings(told))
            self.assertEqual(joined_counts(one, corner, other, last), numbers)
            self.assertEqual(6 * numbers[0], count_edge_hues(one) * count_edge_hues(other))

    def test_face_hues(self):
        for one, corner, other, last in pairs(10):
            told = put_together(one, corner, other, last)
            for many in (0, 1, 2, 3, 4, 5, 100, 10 ** 12):
                self.assertEqual(joined_face_hues(one, other, many), count_face_hues(told, many))

    def test_limits(self):
        for one, other in ((drum(8), F + ()), (drum(6), drum(5)), (drawn(11, 1), F), (F, drawn(11, 2)), (P, drum(8))):
            if len(one) + len(other) <= 15:
                self.assertEqual(len(put_together(one, corners_of(one)[0], other, corners_of(other)[1])),
                                 len(one) + len(other) - 3)
        for one, other in ((ball(), F), (F, ball()), (drum(8), drawn(6, 1)), (drum(6), drum(6)), (ball(), ball())):
            with self.assertRaises(TooMany) as told:
                put_together(one, corners_of(one)[0], other, corners_of(other)[1])
            self.assertEqual(told.exception.limit, 12)

    def test_numbers_of_great_bodies(self):
        for one, other in ((ball(), ball()), (drum(10), ball()), (drawn(12, 1), drum(10))):
            hues, signs, tours, pairings = joined_counts(one, corners_of(one)[5], other, corners_of(other)[9])
            self.assertEqual(6 * hues, count_edge_hues(one) * count_edge_hues(other))
            self.assertEqual(3 * signs, hues)
            met, found = left_out(one, corners_of(one)[5]), left_out(other, corners_of(other)[9])
            self.assertTrue(sum(met) * sum(found) >= tours > 0 and pairings > 0)
        # All edges of the ball are alike.
        self.assertEqual(joined_counts(ball(), (0, 1, 2), ball(), (0, 1, 2))[2], 3 * 10 * 10)
        for many in (0, 1, 2, 3, 10 ** 12):
            one, other = drum(8), drawn(10, 3)
            told = joined_face_hues(one, other, many)
            shared = many * (many - 1) * (many - 2)
            self.assertEqual(told * shared, count_face_hues(one, many) * count_face_hues(other, many) if shared else 0)
        for one, other in ((drum(9), F), (F, drum(9)), (ball(), ball())):
            with self.assertRaises(TooMany) as told:
                joined_face_hues(one, other, 4)
            self.assertEqual(told.exception.limit, 10)
            with self.assertRaises(InvalidNumber):
                joined_face_hues(one, other, -1)


class Parted(unittest.TestCase):
    def test_what_was_put_together(self):
        for one, corner, other, last in pairs(12, 2):
            told = put_together(one, corner, other, last)
            belt = corner
            self.assertIn(belt, belts(told))
            both = parted(told, belt)
            rest = [face for face in range(len(one)) if face not in corner]
            self.assertEqual(both[0], one)
            self.assertTrue(alike(both[1], other))
            self.assertLess(rest[0], len(one))

    def test_all_belts(self):
        many = 0
        for body in some_bodies(5, 12, 3) + [Q]:
            for belt in belts(body):
                both = parted(body, belt)
                self.assertEqual([is_body(part) for part in both], [True, True])
                self.assertEqual(len(both[0]) + len(both[1]), len(body) + 3)
                # The faces of the belt come in the same order in both parts, and can be put together there again.
                least = min(face for face in range(len(body)) if face not in belt)
                side = {least}
                for _ in body:
                    side |= {other for face in side for other in body[face] if other not in belt}
                kept = sorted(side | set(belt))
                self.assertEqual(len(both[0]), len(kept))
                corner = tuple(kept.index(face) for face in belt)
                rest = sorted(set(range(len(body))) - side)
                last = tuple(rest.index(face) for face in belt)
                self.assertTrue(alike(put_together(both[0], corner, both[1], last), body))
                many += 1
        self.assertGreater(many, 40)

    def test_no_belts(self):
        for body in (F, P, Q, K, ball(), drawn(9, 4)):
            fine = belts(body)
            wrong = corners_of(body) + [(1, 3, 2), (3, 2, 1), (1, 2), (1, 2, 3, 4), (1, 2, True), [1, 2, 3], (0, 1, 99)]
            for number, value in enumerate(wrong + odd_values() + odd_integers() + bent((1, 2, 3))):
                if type(value) is not tuple or value not in fine or bool in map(type, value):
                    with self.assertRaises(InvalidBelt, msg=number):
                        parted(body, value)

    def test_parts(self):
        for body in some_bodies(4, 12, 3) + [K, Q, ball()]:
            told = parts(body)
            self.assertEqual(told, sorted(told))
            self.assertTrue(all(plain(part) == part and belts(part) == [] for part in told))
            self.assertEqual(sum(len(part) - 3 for part in told), len(body) - 3)
            dice = random.Random(len(body))
            for _ in range(3):
                left, found = [body], []
                while left:
                    part = left.pop()
                    if belts(part):
                        left.extend(parted(part, dice.choice(belts(part))))
                    else:
                        found.append(plain(part))
                self.assertEqual(sorted(found), told)
        self.assertEqual([parts(body) for body in (F, P, Q)], [[F], [F, F], [F, F, F]])
        self.assertEqual(parts(put_together(K, (0, 1, 2), drum(5), (0, 1, 2))), sorted([plain(K), plain(drum(5))]))
        self.assertEqual(len(parts(put_together(P, (0, 1, 2), drum(3), (0, 1, 2)))), 4)

    def test_belts_within_belts(self):
        body = F
        for _ in range(8):
            body = cut(body, (corners_of(body)[-1], -1))
        self.assertEqual(parts(body), [F] * 9)
        self.assertEqual(len(belts(body)), 8)


class Left(unittest.TestCase):
    def test_left_out(self):
        for body in some_bodies(4, 9, 2) + [K, ball()]:
            tours = rounds(body)
            for corner in corners_of(body)[::3]:
                told = tuple(sum(edge not in tour for tour in tours) for edge in edges_at(corner))
                self.assertEqual(left_out(body, corner), told)
                # Each round leaves out just one edge of each corner.
                self.assertEqual(sum(told), len(tours))

    def test_order_of_errors(self):
        corner = (0, 1, 2)
        for call in (put_together, joined_counts):
            for args, error in ((([], None, [], None), InvalidBody), ((F, None, [], None), InvalidCorner),
                                ((F, corner, [], None), InvalidBody), ((F, corner, F, None), InvalidCorner),
                                ((K, (0, 1, 5), K, (0, 1, 5)), InvalidCorner),
                                ((ball(), corner, ball(), 0), InvalidCorner)):
                with self.assertRaises(error):
                    call(*args)
        for args, error in (([[], [], None], InvalidBody), ([F, [], None], InvalidBody), ([F, F, None], InvalidNumber),
                            ([F, F, 10 ** 12 + 1], InvalidNumber), ([F, F, True], InvalidNumber)):
            with self.assertRaises(error):
                joined_face_hues(*args)

    def test_polynomials(self):
        for one, other in ((P, K), (drum(5), Q)):
            told = polynomial(put_together(one, corners_of(one)[0], other, corners_of(other)[0]))
            for many in (3, 4, 7):
                self.assertEqual(sum(item * many ** power for power, item in enumerate(told)),
                                 joined_face_hues(one, other, many))
                self.assertEqual(value_at(one, many) * value_at(other, many),
                                 joined_face_hues(one, other, many) * many * (many - 1) * (many - 2))
