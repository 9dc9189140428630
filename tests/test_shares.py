"""The drop between two corners."""

import unittest
from fractions import Fraction
from itertools import combinations

from huesandrounds.errors import InvalidCorner
from huesandrounds.shares import drop
from huesandrounds.trees import share
from tests.brute import all_trees, corners_of, edges_of, ends_of, lots_by, ties_of
from tests.support import F, K, P, Q, ball, drawn, drum, odd_values, some_bodies


def slow_drop(body, one, other):
    """The drop, counted over all lots of edges that part the corners into two trees."""
    many = 0
    for some in combinations(edges_of(body), len(corners_of(body)) - 2):
        lot = lots_by(corners_of(body), ties_of(body, "corners", some))
        many += len(set(lot.values())) == 2 and lot[one] != lot[other]
    return Fraction(many, len(all_trees(body)))


class Drops(unittest.TestCase):
    def test_against_all_lots(self):
        for body in (F, P, drawn(5, 2), Q):
            for other in corners_of(body)[1:]:
                told = slow_drop(body, corners_of(body)[0], other)
                self.assertEqual(drop(body, corners_of(body)[0], other), (told.numerator, told.denominator))

    def test_what_holds_for_all_bodies(self):
        for body in some_bodies(4, 12, 1) + [K, ball(), drum(10)]:
            corners = corners_of(body)
            for one in corners[::7]:
                self.assertEqual(drop(body, one, one), (0, 1))
                for other in corners:
                    self.assertEqual(drop(body, one, other), drop(body, other, one))
            # Between the ends of an edge the drop is the share of trees that have the edge.
            for edge in edges_of(body):
                self.assertEqual(drop(body, *ends_of(body, edge)), share(body, edge))
            # No drop is greater than two that lead there over a third corner.
            a, b, c = corners[0], corners[len(corners) // 2], corners[-1]
            self.assertLessEqual(Fraction(*drop(body, a, c)), Fraction(*drop(body, a, b)) + Fraction(*drop(body, b, c)))

    def test_no_corners(self):
        for body in (F, ball()):
            corner = corners_of(body)[0]
            wrong = [corner[::-1], corner[:2], (0, 0, 1), list(corner), (False, 1, 2), (0, 1, 99)]
            for number, value in enumerate(wrong + odd_values()):
                for args in ((value, corner), (corner, value), (value, value)):
                    with self.assertRaises(InvalidCorner, msg=number):
                        drop(body, *args)
