"""Spots, seams, cuts, healing and ways down."""

import unittest

from huesandrounds.bodies import corners, edges, is_body
from huesandrounds.cutting import cut, healed, is_way_down, seams, spots, way_down
from huesandrounds.errors import InvalidSeam, InvalidSpot, TooMany
from tests.support import F, K, P, Q, ball, drum, odd_integers, odd_values, renamed, some_bodies, turned_to_least


def with_between(ring, fresh, one, other):
    """A ring with a new face between two that are next to one another in it."""
    at, to = ring.index(one), ring.index(other)
    assert (at - to) % len(ring) in (1, len(ring) - 1)
    if (at + 1) % len(ring) == to:
        return ring[:at + 1] + [fresh] + ring[at + 1:]
    return ring[:to + 1] + [fresh] + ring[to + 1:]


def slow_cut(body, spot):
    """The cut by the words of the document, ring by ring; the new ring is the one by which it is a body."""
    faces, middle = spot
    fresh = len(body)
    rings = [list(ring) for ring in body]
    if len(faces) == 3 and middle == -1:
        around = [faces]
        for face in faces:
            one, other = [item for item in faces if item != face]
            rings[face] = with_between(rings[face], fresh, one, other)
    elif len(faces) == 2:
        ends = [face for face in range(len(body)) if tuple(sorted(faces + (face,))) in corners(body)]
        one, other = faces
        rings[one][rings[one].index(other)] = fresh
        rings[other][rings[other].index(one)] = fresh
        for end in ends:
            rings[end] = with_between(rings[end], fresh, one, other)
        around = [(one, ends[0], other, ends[1])]
    else:
        one, other = [face for face in faces if face != middle]
        ring = rings[middle]
        if ring[(ring.index(one) + 1) % len(ring)] != other:
            one, other = other, one
        before, behind = ring[ring.index(one) - 1], ring[(ring.index(other) + 1) % len(ring)]
        rings[before] = with_between(rings[before], fresh, middle, one)
        rings[behind] = with_between(rings[behind], fresh, middle, other)
        rings[middle] = [fresh if item == one else item for item in ring if item != other]
        rings[one][rings[one].index(middle)] = fresh
        rings[other][rings[other].index(middle)] = fresh
        around = [(middle, before, one, other, behind)]
    ways = [around[0], around[0][::-1]]
    found = [tuple(turned_to_least(row) for row in rings + [list(way)]) for way in ways]
    return [value for value in found if is_body(value)]


class Spots(unittest.TestCase):
    def test_the_list(self):
        for body in some_bodies(4, 12):
            rows = [(edge, -1) for edge in edges(body)] + [(corner, -1) for corner in corners(body)]
            rows += [(corner, face) for corner in corners(body) for face in corner if len(body[face]) > 3]
            self.assertEqual(spots(body), sorted(rows))

    def test_cuts(self):
        for body in some_bodies(4, 11, 2):
            for spot in spots(body):
                self.assertEqual([cut(body, spot)], slow_cut(body, spot))

    def test_the_new_face(self):
        for body in some_bodies(4, 11, 1):
            for spot in spots(body):
                sides = len(spot[0]) + 2 * (spot[1] >= 0) if len(spot[0]) == 3 else 4
                self.assertEqual(len(cut(body, spot)[-1]), sides)

    def test_a_middle_of_three_sides_is_no_spot(self):
        for face in range(3):
            with self.assertRaises(InvalidSpot):
                cut(F, ((0, 1, 2), face))
        with self.assertRaises(InvalidSpot):
            cut(P, ((0, 1, 2), 0))
        self.assertTrue(is_body(cut(P, ((0, 1, 2), 1))))

    def test_twelve_faces_are_the_most(self):
        self.assertEqual(len(cut(drum(9), ((0, 1), -1))), 12)
        for body in (drum(10), ball()):
            for spot in spots(body):
                with self.assertRaises(TooMany) as told:
                    cut(body, spot)
                self.assertEqual(told.exception.limit, 12)
            with self.assertRaises(InvalidSpot):
                cut(body, ((0, 11), -1))


class Seams(unittest.TestCase):
    def test_cuts_are_healed(self):
        for body in some_bodies(4, 11, 2):
            for spot in spots(body):
                more = cut(body, spot)
                face = len(body)
                if spot[1] >= 0 or len(spot[0]) == 2:
                    middle = spot[1] if spot[1] >= 0 else min(spot[0])
                else:
                    middle = -1
                self.assertIn((face, middle), seams(more))
                self.assertEqual(healed(more, (face, middle)), body)

    def test_the_list(self):
        for body in some_bodies(4, 12):
            rows = []
            for face, ring in enumerate(body):
                if len(ring) == 3 and len(body) > 4:
                    rows.append((face, -1))
                if len(ring) == 4:
                    pairs = [sorted((ring[0], ring[2])), sorted((ring[1], ring[3]))]
                    rows += [(face, one) for one, other in pairs if other not in body[one]]
                if len(ring) == 5:
                    for at, middle in enumerate(ring):
                        if ring[(at + 2) % 5] not in body[middle] and ring[(at + 3) % 5] not in body[middle]:
                            rows.append((face, middle))
            self.assertEqual(seams(body), sorted(rows))

    def test_healing_is_undone_by_a_cut(self):
        for body in some_bodies(5, 12):
            for face, middle in seams(body):
                less = healed(body, (face, middle))
                self.assertTrue(is_body(less))
                self.assertEqual(len(less), len(body) - 1)
                names = [len(less) if item == face else item - (item > face) for item in range(len(body))]
                ring = body[face]
                at = ring.index(middle) if middle >= 0 else 0
                faces = {3: ring, 4: (ring[at], ring[at - 2]), 5: (ring[at], ring[at - 2], ring[at - 3])}[len(ring)]
                spot = tuple(sorted(names[item] for item in faces)), names[middle] if len(ring) == 5 else -1
                self.assertEqual(cut(less, spot), renamed(body, names))

    def test_four_faces_have_no_seam(self):
        self.assertEqual(seams(F), [])
        for seam in [(face, middle) for face in range(-1, 5) for middle in range(-1, 4)]:
            with self.assertRaises(InvalidSeam):
                healed(F, seam)

    def test_faces_of_four_and_five_sides(self):
        self.assertEqual(seams(K), [(face, min(one, other)) for face, pairs in (
            (0, ((1, 3), (2, 4))), (1, ((0, 5), (2, 4))), (2, ((0, 5), (1, 3))), (3, ((0, 5), (2, 4))),
            (4, ((0, 5), (1, 3))), (5, ((1, 3), (2, 4)))) for one, other in pairs])
        self.assertEqual(len(seams(ball())), 60)
        self.assertEqual(healed(ball(), (11, 6))[6], (1, 10, 9, 8, 7, 2))


class WaysDown(unittest.TestCase):
    def test_each_body_has_one(self):
        for body in some_bodies(4, 12) + [ball(), Q]:
            way = way_down(body)
            self.assertIs(type(way), tuple)
            self.assertEqual(len(way), len(body) - 4)
            self.assertIs(is_way_down(body, way), True)
            for seam in way:
                self.assertIn(seam, seams(body))
                body = healed(body, seam)
            self.assertEqual(len(body), 4)

    def test_other_ways(self):
        for body in some_bodies(6, 8, 1):
            for seam in seams(body):
                way = (seam,) + way_down(healed(body, seam))
                self.assertTrue(is_way_down(body, way))
                self.assertFalse(is_way_down(body, way[:-1]))
                self.assertFalse(is_way_down(body, way + way[-1:]))
                self.assertFalse(is_way_down(body, list(way)))
                self.assertFalse(is_way_down(body, way[:-1] + (list(way[-1]),)))
                self.assertFalse(is_way_down(body, way[:-1] + ((way[-1][0], 9),)))

    def test_odd_values(self):
        self.assertTrue(is_way_down(F, ()))
        for body in (F, K, drum(10), ball()):
            for number, value in enumerate(odd_values() + odd_integers()):
                self.assertIs(is_way_down(body, value), body == F and value == (), number)
