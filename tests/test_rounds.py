"""Rounds, their lands, and the hues that they give."""

import unittest
from itertools import combinations

from huesandrounds.cutting import cut
from huesandrounds.edgehues import is_edge_hues
from huesandrounds.errors import InvalidEdge, InvalidLand
from huesandrounds.lines import pairings
from huesandrounds.pairings import rings_left
from huesandrounds.rounds import (count_rounds, count_through, hues_by, is_round, land_sums, lands, other_round,
                                  round_by, rounds)
from tests.brute import all_rounds, corners_of, edges_of, lands_of
from tests.support import F, K, P, R, ball, bent, drawn, drum, odd_integers, odd_values, some_bodies


def is_tree(body, faces):
    """Whether one comes from each of some faces to each other one in one way alone."""
    ties = [edge for edge in combinations(faces, 2) if edge[1] in body[edge[0]]]
    met = {faces[0]}
    for _ in faces:
        met |= {face for edge in ties if met & set(edge) for face in edge}
    return len(ties) == len(faces) - 1 and met == set(faces)


class Rounds(unittest.TestCase):
    def test_lists(self):
        for body in some_bodies(4, 12, 3) + [K, ball()]:
            slow = all_rounds(body)
            self.assertEqual(rounds(body), slow)
            self.assertEqual(count_rounds(body), len(slow))
            self.assertGreater(len(slow), 0)
            self.assertTrue(all(is_round(body, tour) is True for tour in slow))

    def test_known_numbers(self):
        self.assertEqual([count_rounds(drum(sides)) for sides in range(3, 11)], [3, 6, 5, 8, 7, 10, 9, 12])
        self.assertEqual(count_rounds(ball()), 30)

    def test_no_rounds(self):
        for body in (F, P, K, ball()):
            fine = rounds(body)
            for tour in fine[:3]:
                for number, value in enumerate(odd_values() + odd_integers() + bent(tour)):
                    self.assertIs(is_round(body, value), False, number)
                for at in range(len(tour)):
                    for edge in edges_of(body):
                        other = tuple(sorted(tour[:at] + (edge,) + tour[at + 1:]))
                        self.assertIs(is_round(body, other), other in fine)

    def test_two_rings_are_no_round(self):
        met = 0
        for body in some_bodies(6, 12, 3):
            for row in pairings(body):
                rest = tuple(edge for edge in edges_of(body) if edge not in row)
                self.assertIs(is_round(body, rest), len(rings_left(body, row)) == 1)
                met += len(rings_left(body, row)) > 1
        self.assertGreater(met, 20)

    def test_an_even_number_goes_through_each_edge(self):
        for body in some_bodies(4, 12, 2) + [ball()]:
            slow = all_rounds(body)
            for edge in edges_of(body):
                many = count_through(body, edge)
                self.assertEqual(many, sum(edge in tour for tour in slow))
                self.assertEqual(many % 2, 0)

    def test_through_all_edges_of_bodies_of_ten_faces(self):
        for body in (drawn(10, 1), drawn(10, 2), drawn(10, 3), drum(8)):
            tours = rounds(body)
            numbers = [count_through(body, edge) for edge in edges_of(body)]
            self.assertEqual(len(numbers), 24)
            self.assertEqual(numbers, [sum(edge in tour for tour in tours) for edge in edges_of(body)])
            # Each round has as many edges as there are corners.
            self.assertEqual(sum(numbers), 16 * count_rounds(body))

    def test_other_round(self):
        for body in some_bodies(4, 10, 2) + [ball()]:
            slow = all_rounds(body)
            for tour in slow[:4]:
                for edge in edges_of(body):
                    if edge in tour:
                        other = other_round(body, tour, edge)
                        self.assertIn(other, slow)
                        self.assertIn(edge, other)
                        self.assertNotEqual(other, tour)
                    else:
                        with self.assertRaises(InvalidEdge):
                            other_round(body, tour, edge)

    def test_a_cut_corner_keeps_the_number(self):
        for body in some_bodies(4, 11, 1):
            for corner in corners_of(body)[::3]:
                self.assertEqual(count_rounds(cut(body, (corner, -1))), count_rounds(body))


class Lands(unittest.TestCase):
    def test_lands(self):
        for body in some_bodies(4, 12, 2) + [K, ball()]:
            for tour in all_rounds(body):
                both = lands(body, tour)
                self.assertEqual(both, lands_of(body, tour))
                self.assertIs(type(both), tuple)
                self.assertEqual([is_tree(body, land) for land in both], [True, True])
                self.assertEqual(land_sums(body, both[0]), (2 * len(body) - 6,) * 2)
                self.assertEqual([round_by(body, land) for land in both], [tour, tour])

    def test_round_by_all_lots(self):
        for body in some_bodies(4, 8, 2) + [K]:
            known = {land: tour for tour in all_rounds(body) for land in lands_of(body, tour)}
            for many in range(1, len(body)):
                for some in combinations(range(len(body)), many):
                    self.assertEqual(round_by(body, some), known.get(some))
                    rest = [face for face in range(len(body)) if face not in some]
                    self.assertEqual(some in known, is_tree(body, some) and is_tree(body, rest))
                    sums = tuple(sum(len(body[face]) - 2 for face in lot) for lot in (some, rest))
                    self.assertEqual(land_sums(body, some), sums)

    def test_one_face_and_all_but_one(self):
        for body in (F, P, K, ball()):
            for face in range(len(body)):
                rest = tuple(other for other in range(len(body)) if other != face)
                self.assertIsNone(round_by(body, (face,)))
                self.assertIsNone(round_by(body, rest))
                self.assertEqual(land_sums(body, rest)[1], len(body[face]) - 2)

    def test_no_lands(self):
        for body in (F, ball()):
            wrong = [(), tuple(range(len(body))), (1, 0), (0, 0), (-1, 0), (0, len(body)), [0], 0, (True,), (0, None)]
            for number, value in enumerate(wrong + odd_values()):
                for call in (round_by, land_sums):
                    with self.assertRaises(InvalidLand, msg=number):
                        call(body, value)


class Hues(unittest.TestCase):
    def test_hues_by(self):
        for body in some_bodies(4, 12, 2) + [K, ball()]:
            places = edges_of(body)
            for tour in all_rounds(body):
                hues = hues_by(body, tour)
                self.assertTrue(is_edge_hues(body, hues))
                self.assertEqual(tuple(edge for edge, hue in zip(places, hues) if hue != 2), tour)
                self.assertEqual(hues[places.index(tour[0])], 0)

    def test_example(self):
        self.assertEqual(lands(F, R), ((0, 3), (1, 2)))
