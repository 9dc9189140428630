"""Determinants, equations and invariants of rows of integers."""

import random
import unittest
from itertools import combinations, permutations
from math import gcd, prod

from huesandrounds.solving import adjugate, determinant, invariants_of, solve


def slow_determinant(rows):
    total = 0
    for order in permutations(range(len(rows))):
        turned = sum(order[one] > order[other] for one in range(len(rows)) for other in range(one + 1, len(rows)))
        total += (-1) ** turned * prod(row[at] for row, at in zip(rows, order))
    return total


def drawn_rows(dice, size, most):
    return [[dice.randint(-most, most) for _ in range(size)] for _ in range(size)]


class Solving(unittest.TestCase):
    def test_determinants(self):
        dice = random.Random(1)
        self.assertEqual(determinant([]), 1)
        for size in range(1, 6):
            for most in (1, 1, 2, 9, 10 ** 20):
                for _ in range(20):
                    rows = drawn_rows(dice, size, most)
                    self.assertEqual(determinant(rows), slow_determinant(rows))

    def test_equations(self):
        dice = random.Random(2)
        for size in range(1, 6):
            for _ in range(20):
                half = drawn_rows(dice, size, 4)
                rows = [[sum(a * b for a, b in zip(one, other)) for other in half] for one in half]
                if slow_determinant(rows) != 0:
                    column = [dice.randint(-9, 9) for _ in rows]
                    total, found = solve(rows, column)
                    self.assertEqual(total, slow_determinant(rows))
                    for row, item in zip(rows, column):
                        self.assertEqual(sum(a * b for a, b in zip(row, found)), total * item)

    def test_what_undoes_rows(self):
        dice = random.Random(4)
        self.assertEqual(adjugate([]), (1, []))
        for size in range(1, 7):
            for _ in range(20):
                half = drawn_rows(dice, size, 4)
                rows = [[sum(a * b for a, b in zip(one, other)) for other in half] for one in half]
                if slow_determinant(rows) != 0:
                    total, found = adjugate(rows)
                    self.assertEqual(total, slow_determinant(rows))
                    columns = list(zip(*found))
                    told = [[sum(a * b for a, b in zip(row, column)) for column in columns] for row in rows]
                    self.assertEqual(told, [[total * (at == place) for at in range(size)] for place in range(size)])

    def test_invariants(self):
        dice = random.Random(3)
        for size in range(1, 5):
            for most in (1, 2, 6, 60):
                for _ in range(15):
                    rows = drawn_rows(dice, size, most)
                    if slow_determinant(rows) == 0:
                        continue
                    # The product of the first ones divides all determinants of so many rows and columns.
                    told = [1]
                    for many in range(1, size + 1):
                        told.append(gcd(*[slow_determinant([[rows[at][place] for place in some] for at in lot])
                                          for lot in combinations(range(size), many)
                                          for some in combinations(range(size), many)]))
                    found = invariants_of(rows)
                    self.assertEqual([prod(found[:many]) for many in range(size + 1)], told)
