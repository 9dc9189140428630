"""Patches, repainting, and families by it."""

import unittest
from itertools import permutations

from huesandrounds.bodies import edges
from huesandrounds.edgehues import families, hue_rings, paths_from
from huesandrounds.errors import InvalidHue, TooMany
from huesandrounds.facehues import all_face_hues, first_face_hues, is_face_hues, to_edges
from huesandrounds.patches import paint_families, patches, repainted, repaintings
from huesandrounds.structure import count_tied
from tests.brute import all_edge_hues, all_hues_by, classes
from tests.support import F, K, P, ball, drum, some_bodies


def slow_patch(body, hues, face, hue):
    both = (hues[face], hue)
    met = []
    ahead = [face]
    while ahead:
        here = ahead.pop()
        if here not in met:
            met.append(here)
            ahead.extend(other for other in body[here] if hues[other] in both)
    return tuple(sorted(met))


def slow_repainted(body, hues, face, hue):
    patch = slow_patch(body, hues, face, hue)
    own = hues[face]
    return tuple((hue if item == own else own) if at in patch else item for at, item in enumerate(hues))


class Patches(unittest.TestCase):
    def test_patches(self):
        for body in some_bodies(4, 8, 2) + [ball(), drum(10)]:
            for row in all_hues_by(body, 4)[::41]:
                for one, other in permutations(range(4), 2):
                    slow = {slow_patch(body, row, face, one + other - hue)
                            for face, hue in enumerate(row) if hue in (one, other)}
                    self.assertEqual(patches(body, row, one, other), sorted(slow))

    def test_hues_that_no_face_has(self):
        self.assertEqual(patches(K, (0, 1, 2, 1, 2, 0), 3, 2), [(2,), (4,)])
        self.assertEqual(patches(K, (3, 1, 2, 1, 2, 3), 0, 1), [(1,), (3,)])

    def test_patches_and_the_rings_between_them(self):
        for body in some_bodies(4, 12, 2) + [ball()]:
            for row in all_hues_by(body, 4)[::53]:
                for one, other in ((0, 1), (0, 2), (0, 3)):
                    rest = [hue for hue in range(4) if hue not in (one, other)]
                    # Faces of the first two hues and of the others have edges of both other hues between them.
                    between = hue_rings(body, to_edges(body, row), (one ^ other) - 1)
                    lots = patches(body, row, one, other) + patches(body, row, *rest)
                    self.assertEqual(len(lots), len(between) + 1)
                    sides = [{hue in rest for hue in (row[a], row[b])} for a, b in edges(body)]
                    crossed = sorted(edge for edge, side in zip(edges(body), sides) if len(side) == 2)
                    self.assertEqual(crossed, sorted(edge for ring in between for edge in ring))

    def test_repainted(self):
        for body in some_bodies(4, 8, 2) + [ball()]:
            for row in all_hues_by(body, 4)[::31]:
                for face in range(len(body)):
                    for hue in range(4):
                        if hue != row[face]:
                            other = repainted(body, row, face, hue)
                            self.assertEqual(other, slow_repainted(body, row, face, hue))
                            self.assertTrue(is_face_hues(body, other))
                            self.assertEqual(repainted(body, other, face, row[face]), row)

    def test_the_same_hue(self):
        row = first_face_hues(P)
        for hue in range(4):
            with self.assertRaises(InvalidHue):
                patches(P, row, hue, hue)
        for face in range(5):
            with self.assertRaises(InvalidHue):
                repainted(P, row, face, row[face])


class PaintFamilies(unittest.TestCase):
    def test_families(self):
        for body in some_bodies(4, 7, 2) + [F, K]:
            slow = classes(all_face_hues(body), lambda row: {
                slow_repainted(body, row, face, hue)
                for face in range(len(body)) for hue in range(4) if hue != row[face]})
            self.assertEqual(paint_families(body), len(slow))
            self.assertEqual(paint_families(body), families(body))

    def test_all_repaintings(self):
        for body in some_bodies(4, 8, 1) + [ball()]:
            for row in all_hues_by(body, 4)[::19]:
                slow = {slow_repainted(body, row, face, hue)
                        for face in range(len(body)) for hue in range(4) if hue != row[face]}
                self.assertEqual(set(repaintings(body, row)) - {row}, slow)

    def test_several_families(self):
        # All bodies of at most seven faces are of one family; greater ones show that families are told apart.
        body = ball()
        paints = {row: repaintings(body, row) for row in all_hues_by(body, 4)}
        slow = classes(all_edge_hues(body), lambda hues: paths_from(body, hues))
        self.assertGreater(len(slow), 1)
        self.assertEqual(count_tied(paints), len(slow))

    def test_seven_faces_are_the_most(self):
        self.assertEqual(paint_families(drum(5)), 1)
        with self.assertRaises(TooMany) as told:
            paint_families(drum(6))
        self.assertEqual(told.exception.limit, 7)
