"""Rounds walked from corner to corner, and carried to cut and to healed bodies."""

import unittest

from huesandrounds.cutting import cut, healed
from huesandrounds.errors import InvalidCorner, InvalidEdge, InvalidFace, InvalidTour, NoSeam, TooMany
from huesandrounds.lines import is_pairing
from huesandrounds.rounds import is_round, rounds
from huesandrounds.walks import carried, carried_back, corner_walk, left_edges
from tests.brute import all_rounds, corners_of, edges_at, edges_of, edges_on, ends_of, lands_of
from tests.support import F, K, P, R, ball, drum, odd_values, some_bodies


class Walks(unittest.TestCase):
    def test_corner_walks(self):
        for body in some_bodies(4, 12, 1) + [K, ball()]:
            for tour in all_rounds(body)[:2]:
                for corner in corners_of(body)[::3]:
                    for edge in edges_of(body):
                        if edge not in tour or edge not in edges_at(corner):
                            with self.assertRaises(InvalidEdge):
                                corner_walk(body, tour, corner, edge)
                            continue
                        walk = corner_walk(body, tour, corner, edge)
                        self.assertIs(type(walk), tuple)
                        self.assertEqual(sorted(walk), corners_of(body))
                        self.assertEqual(walk[0], corner)
                        self.assertEqual(set(walk[:2]), set(ends_of(body, edge)))
                        self.assertEqual(edges_on(walk + walk[:1]), tour)

    def test_left_edges(self):
        for body in some_bodies(4, 12, 2) + [ball()]:
            for tour in all_rounds(body):
                rest = tuple(edge for edge in edges_of(body) if edge not in tour)
                self.assertTrue(is_pairing(body, rest))
                both = lands_of(body, tour)
                told = tuple(tuple(edge for edge in rest if set(edge) <= set(land)) for land in both)
                self.assertEqual(left_edges(body, tour), told)
                self.assertEqual([len(some) for some in told], [len(land) - 1 for land in both])


class Carried(unittest.TestCase):
    def test_carried(self):
        for body in some_bodies(4, 11, 1) + [K]:
            for corner in corners_of(body)[::2]:
                more = cut(body, (corner, -1))
                found = [carried(body, tour, corner) for tour in rounds(body)]
                self.assertEqual(sorted(found), all_rounds(more))
                for tour, other in zip(rounds(body), found):
                    self.assertLess(set(tour), set(other))
                    self.assertTrue(is_round(more, other))
                    self.assertEqual(carried_back(more, other, len(body)), tour)

    def test_carried_back(self):
        met = 0
        for body in some_bodies(5, 12, 4):
            for face, ring in enumerate(body):
                if len(ring) != 3:
                    with self.assertRaises(NoSeam):
                        carried_back(body, rounds(body)[0], face)
                    continue
                met += 1
                less = healed(body, (face, -1))
                found = [carried_back(body, tour, face) for tour in rounds(body)]
                self.assertEqual(sorted(found), all_rounds(less))
                for tour, other in zip(rounds(body), found):
                    kept = [edge for edge in tour if face not in edge]
                    told = [tuple(item - (item > face) for item in edge) for edge in kept]
                    self.assertEqual(other, tuple(told))
        self.assertGreater(met, 20)

    def test_no_face_comes_ahead_of_no_seam(self):
        for body in (F, P, K):
            tour = rounds(body)[0]
            for face in (-1, len(body), True, None, "0"):
                with self.assertRaises(InvalidFace):
                    carried_back(body, tour, face)
        for face in range(4):
            with self.assertRaises(NoSeam):
                carried_back(F, R, face)
            with self.assertRaises(InvalidTour):
                carried_back(F, R[::-1], face)
        for face in range(6):
            with self.assertRaises(NoSeam):
                carried_back(K, rounds(K)[0], face)

    def test_too_many_faces_come_last(self):
        for body in (drum(10), ball()):
            tour = rounds(body)[0]
            for corner in corners_of(body):
                with self.assertRaises(TooMany) as caught:
                    carried(body, tour, corner)
                self.assertEqual(caught.exception.limit, 12)
            for number, value in enumerate(odd_values()):
                with self.assertRaises(InvalidCorner, msg=number):
                    carried(body, tour, value)
                with self.assertRaises(InvalidTour, msg=number):
                    carried(body, value, value)
