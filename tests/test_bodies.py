"""Bodies, their edges, corners and belts."""

import unittest
from itertools import combinations, permutations, product

from huesandrounds.bodies import belts, corners, counts_of, edges, is_body
from huesandrounds.cutting import cut, healed, seams, spots
from huesandrounds.forms import mirrored
from tests.brute import corners_of, edges_of
from tests.support import F, K, P, Q, ball, bent, drum, odd_integers, odd_values, renamed, some_bodies


def torus():
    """Seven rings of six that turn the same way, but not as on a ball."""
    rings = [[(face + step) % 7 for step in (1, 3, 2, 6, 4, 5)] for face in range(7)]
    return tuple(tuple(ring[ring.index(min(ring)):] + ring[:ring.index(min(ring))]) for ring in rings)


def beside(one, other):
    """The rings of both, those of the other one numbered behind."""
    return one + tuple(tuple(item + len(one) for item in ring) for ring in other)


class IsBody(unittest.TestCase):
    def test_bodies(self):
        for body in [F, P, K, Q, ball()] + [drum(sides) for sides in range(3, 11)] + some_bodies(4, 12):
            self.assertIs(is_body(body), True)

    def test_names_do_not_matter(self):
        for body in (P, K, Q):
            names = list(range(len(body)))
            for shift in range(len(body)):
                self.assertTrue(is_body(renamed(body, names[shift:] + names[:shift])))

    def test_too_few_and_too_many_faces(self):
        self.assertFalse(is_body(((1, 2), (0, 2), (0, 1))))
        self.assertFalse(is_body(()))
        self.assertTrue(is_body(drum(10)))
        self.assertFalse(is_body(drum(11)))

    def test_rings_begin_with_their_least_item(self):
        for body in (F, P, K):
            for face in range(len(body)):
                ring = body[face][1:] + body[face][:1]
                self.assertFalse(is_body(body[:face] + (ring,) + body[face + 1:]))

    def test_one_ring_the_other_way_round(self):
        for body in (F, P, K, ball()):
            for face, ring in enumerate(body):
                other = ring[:1] + ring[:0:-1]
                self.assertFalse(is_body(body[:face] + (other,) + body[face + 1:]))

    def test_rings_that_are_no_ball(self):
        # All corners agree here; the sums of sides, or the way from face to face, do not.
        self.assertFalse(is_body(torus()))
        self.assertEqual(sum(map(len, beside(F, torus()))), 6 * 11 - 12)
        self.assertFalse(is_body(beside(F, torus())))
        self.assertFalse(is_body(beside(torus(), F)))
        self.assertFalse(is_body(beside(F, F)))

    def test_numbers_out_of_range_twice_or_their_own(self):
        self.assertFalse(is_body(((1, 2, 4), (0, 3, 2), (0, 1, 3), (0, 2, 1))))
        self.assertFalse(is_body(((1, 2, 3), (1, 3, 2), (0, 1, 3), (0, 2, 1))))
        self.assertFalse(is_body(((1, 2, 2), (0, 3, 2), (0, 1, 3), (0, 2, 1))))
        self.assertFalse(is_body(((-1, 2, 3), (0, 3, 2), (0, 1, 3), (0, 2, 1))))
        self.assertFalse(is_body(((True, 2, 3), (0, 3, 2), (0, 1, 3), (0, 2, 1))))
        self.assertFalse(is_body(((1, 2, 3), (False, 3, 2), (0, 1, 3), (0, 2, 1))))

    def test_odd_values(self):
        for body in (F, P, K, ball()):
            for number, value in enumerate(odd_values() + odd_integers() + bent(body)):
                self.assertIs(is_body(value), False, number)
            for face in range(len(body)):
                for number, ring in enumerate(odd_values() + odd_integers() + bent(body[face])):
                    self.assertIs(is_body(body[:face] + (ring,) + body[face + 1:]), False, number)

    def all_rings(self, items):
        return [row for size in (3, 4) for row in permutations(items, size) if row[0] == min(row)]

    def test_all_rings_of_few_faces(self):
        for body, many in ((F, 2), (P, 20)):
            fine = {renamed(some, names) for some in (body, mirrored(body)) for names in permutations(range(len(body)))}
            self.assertEqual(len(fine), many)
            rows = [self.all_rings([item for item in range(len(body)) if item != face]) for face in range(len(body))]
            sides = 6 * len(body) - 12
            found = {rings for rings in product(*rows) if sum(map(len, rings)) == sides and is_body(rings)}
            self.assertEqual(found, fine)

    def test_two_places_of_a_ring_exchanged(self):
        for body in (P, K, Q):
            for face, ring in enumerate(body):
                for one, other in combinations(range(1, len(ring)), 2):
                    row = list(ring)
                    row[one], row[other] = row[other], row[one]
                    self.assertFalse(is_body(body[:face] + (tuple(row),) + body[face + 1:]))


class Parts(unittest.TestCase):
    def test_edges_and_corners(self):
        for body in some_bodies(4, 12):
            self.assertEqual(edges(body), edges_of(body))
            self.assertEqual(corners(body), corners_of(body))
            self.assertEqual(len(edges(body)), 3 * len(body) - 6)
            self.assertEqual(len(corners(body)), 2 * len(body) - 4)

    def test_counts_of_sides(self):
        for body in some_bodies(4, 12):
            counts = counts_of(body)
            self.assertEqual(sum(counts), len(body))
            self.assertEqual(len(counts) + 2, max(len(ring) for ring in body))
            self.assertEqual(sum(many * (6 - sides) for sides, many in enumerate(counts, 3)), 12)
        self.assertEqual(counts_of(F), (4,))
        self.assertEqual(counts_of(ball()), (0, 0, 12))
        self.assertEqual(counts_of(drum(10)), (0, 10, 0, 0, 0, 0, 0, 2))

    def test_belts(self):
        for body in some_bodies(4, 12):
            rows = combinations(range(len(body)), 3)
            near = [row for row in rows if all(b in body[a] for a, b in combinations(row, 2))]
            self.assertEqual(belts(body), [row for row in near if row not in corners_of(body)])

    def test_a_corner_cut_off_leaves_a_belt(self):
        for body in some_bodies(4, 11):
            for corner in corners(body):
                more = belts(cut(body, (corner, -1)))
                self.assertEqual(sorted(belts(body) + [corner]), more)

    def test_what_comes_is_a_body(self):
        for body in some_bodies(4, 11, 2):
            self.assertTrue(is_body(mirrored(body)))
            self.assertTrue(all(is_body(cut(body, spot)) for spot in spots(body)))
            self.assertTrue(all(is_body(healed(body, seam)) for seam in seams(body)))
