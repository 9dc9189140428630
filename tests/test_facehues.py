"""Face hues, lots, and what leads between face hues and edge hues."""

import unittest

from huesandrounds.bodies import corners
from huesandrounds.cutting import cut
from huesandrounds.edgehues import count_edge_hues, edge_hues, is_edge_hues
from huesandrounds.errors import InvalidHue, InvalidNumber, TooMany
from huesandrounds.facehues import (all_face_hues, count_face_hues, first_face_hues, is_face_hues, lots, three_hues,
                                    to_edges, to_faces)
from tests.brute import all_hues_by, all_partings, edges_of
from tests.support import F, K, P, ball, bent, drawn, drum, odd_integers, odd_values, some_bodies

MIX = {(0, 0): 0, (1, 2): 3, (1, 3): 2, (2, 3): 1, (0, 1): 1, (0, 2): 2, (0, 3): 3}


def mixed(one, other):
    return MIX[min(one, other), max(one, other)]


class FaceHues(unittest.TestCase):
    def test_lists(self):
        for body in some_bodies(4, 8):
            slow = all_hues_by(body, 4)
            self.assertEqual(all_face_hues(body), slow)
            self.assertTrue(all(is_face_hues(body, row) is True for row in slow))
            self.assertEqual(len(slow), 4 * count_edge_hues(body))

    def test_no_face_hues(self):
        for body in (F, P, K, ball()):
            hues = first_face_hues(body)
            for number, value in enumerate(odd_values() + odd_integers() + bent(hues)):
                self.assertIs(is_face_hues(body, value), False, number)
            for one, other in edges_of(body):
                row = list(hues)
                row[one] = row[other]
                self.assertFalse(is_face_hues(body, tuple(row)))
            for at in range(len(body)):
                for hue in (-1, 4, 5):
                    self.assertFalse(is_face_hues(body, hues[:at] + (hue,) + hues[at + 1:]))

    def test_the_first_ones(self):
        for body in some_bodies(4, 12) + [ball()]:
            rows = all_hues_by(body, 4)
            self.assertEqual(first_face_hues(body), rows[0])
            self.assertEqual(len(rows), 4 * count_edge_hues(body))

    def test_eight_faces_are_the_most(self):
        self.assertEqual(len(all_face_hues(drum(6))), 4 * count_edge_hues(drum(6)))
        with self.assertRaises(TooMany) as told:
            all_face_hues(drum(7))
        self.assertEqual(told.exception.limit, 8)


class Lots(unittest.TestCase):
    def test_partings(self):
        for body in some_bodies(4, 9, 2) + [drum(8)]:
            sizes = [len(way) for way in all_partings(body)]
            self.assertEqual(lots(body), tuple(sizes.count(size) for size in range(len(body) + 1)))

    def test_numbers_of_hues(self):
        for body in some_bodies(4, 8, 2):
            for many in range(6 if len(body) < 8 else 5):
                self.assertEqual(count_face_hues(body, many), len(all_hues_by(body, many)))

    def test_many_hues(self):
        top = 10 ** 12
        self.assertEqual(count_face_hues(F, top), top * (top - 1) * (top - 2) * (top - 3))
        self.assertEqual(count_face_hues(P, top), top * (top - 1) * (top - 2) * (top - 3) ** 2)
        for number in (-1, top + 1, True, None, "4", 10 ** 119, -(10 ** 119)):
            with self.assertRaises(InvalidNumber):
                count_face_hues(F, number)

    def test_a_corner_cut_off(self):
        for body in some_bodies(4, 9, 2):
            more = cut(body, (corners(body)[-1], -1))
            for many in (3, 4, 5, 17):
                self.assertEqual(count_face_hues(more, many), count_face_hues(body, many) * (many - 3))

    def test_ten_faces_are_the_most(self):
        for call, args in ((lots, ()), (count_face_hues, (4,))):
            call(drum(8), *args)
            for body in (drum(9), drawn(12, 1)):
                with self.assertRaises(TooMany) as told:
                    call(body, *args)
                self.assertEqual(told.exception.limit, 10)


class BetweenFacesAndEdges(unittest.TestCase):
    def test_to_edges(self):
        for body in some_bodies(4, 8, 2):
            for row in all_hues_by(body, 4):
                hues = to_edges(body, row)
                self.assertEqual(hues, tuple(mixed(row[one], row[other]) - 1 for one, other in edges_of(body)))
                self.assertTrue(is_edge_hues(body, hues))
                self.assertEqual(to_faces(body, hues, row[0]), row)

    def test_to_faces(self):
        for body in some_bodies(4, 9, 2):
            for hues in edge_hues(body):
                rows = [to_faces(body, hues, hue) for hue in range(4)]
                self.assertEqual([row[0] for row in rows], [0, 1, 2, 3])
                self.assertTrue(all(is_face_hues(body, row) for row in rows))
                self.assertEqual([to_edges(body, row) for row in rows], [hues] * 4)

    def test_great_bodies(self):
        for body in some_bodies(10, 12) + [ball()]:
            row = first_face_hues(body)
            self.assertEqual(to_faces(body, to_edges(body, row), 0), row)

    def test_hues_out_of_range(self):
        for hue in (-1, 4, True, None, "0", 10 ** 119):
            with self.assertRaises(InvalidHue):
                to_faces(F, (0, 1, 2, 2, 1, 0), hue)


class ThreeHues(unittest.TestCase):
    def test_just_if_all_sides_are_even(self):
        evens = 0
        for body in some_bodies(4, 12, 6) + [ball()]:
            rows = all_hues_by(body, 3)
            even = all(len(ring) % 2 == 0 for ring in body)
            evens += even
            self.assertEqual(len(rows), 6 if even else 0)
            self.assertEqual(three_hues(body), rows[0] if even else None)
        self.assertGreater(evens, 3)
