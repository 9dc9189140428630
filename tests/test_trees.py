"""Trees of edges and of faces, how many there are, and which one stands where."""

import random
import unittest
from fractions import Fraction
from itertools import combinations
from math import prod

from huesandrounds.errors import InvalidEdges, InvalidNumber, InvalidWeb
from huesandrounds.trees import (count_trees, index_of, is_edge_tree, is_face_tree, rest, share, tree_at, tree_sum,
                                 trees_with)
from tests.brute import all_trees, edges_of, is_spanning
from tests.support import F, K, P, Q, ball, bent, drawn, drawn_tree, drum, odd_integers, odd_values, some_bodies


def small_bodies():
    return some_bodies(4, 6, 2) + [K]


def slow_trees_with(body, inside, outside):
    return sum(set(inside) <= set(tree) and not set(outside) & set(tree) for tree in all_trees(body))


class Trees(unittest.TestCase):
    def test_all_lots_of_edges(self):
        for body in small_bodies():
            for many in range(len(body) - 2, 2 * len(body) - 3):
                for some in combinations(edges_of(body), many):
                    self.assertIs(is_edge_tree(body, some), is_spanning(body, "corners", some))
                    self.assertIs(is_face_tree(body, some), is_spanning(body, "faces", some))

    def test_rests(self):
        for body in small_bodies():
            self.assertEqual([rest(body, tree) for tree in all_trees(body)][::-1], all_trees(body, "faces"))
            self.assertEqual(rest(body, ()), tuple(edges_of(body)))
            self.assertEqual(rest(body, tuple(edges_of(body))), ())
        for body in some_bodies(7, 12, 2) + [ball()]:
            for seed in range(3):
                tree = drawn_tree(body, seed)
                self.assertIs(is_edge_tree(body, tree), True)
                self.assertIs(is_face_tree(body, rest(body, tree)), True)
                self.assertIs(is_face_tree(body, tree), False)
                self.assertEqual(rest(body, rest(body, tree)), tree)

    def test_no_trees(self):
        for body in (F, P, K, ball()):
            for tree in (drawn_tree(body, 1), drawn_tree(body, 2)):
                for number, value in enumerate(odd_values() + odd_integers() + bent(tree)):
                    self.assertIs(is_edge_tree(body, value), False, number)
                for number, value in enumerate(odd_values() + odd_integers() + bent(rest(body, tree))):
                    self.assertIs(is_face_tree(body, value), False, number)

    def test_numbers(self):
        for body in small_bodies():
            for on in ("corners", "faces"):
                self.assertEqual(count_trees(body, on), len(all_trees(body)))
        for body in some_bodies(7, 12, 3):
            self.assertEqual(count_trees(body, "corners"), count_trees(body, "faces"))
        self.assertEqual([count_trees(drum(sides), "corners") for sides in (3, 4, 5, 6)], [75, 384, 1805, 8100])
        self.assertEqual([count_trees(ball(), on) for on in ("corners", "faces")], [5184000, 5184000])

    def test_no_webs(self):
        for number, on in enumerate(odd_values() + ["corner", "Faces", "faces ", ("faces",), 0, 1]):
            with self.assertRaises(InvalidWeb, msg=number):
                count_trees(F, on)


class Edges(unittest.TestCase):
    def test_trees_with(self):
        for body in (F, P):
            lots = [some for many in range(4) for some in combinations(edges_of(body), many)]
            for inside in lots:
                for outside in lots[::3]:
                    self.assertEqual(trees_with(body, inside, outside), slow_trees_with(body, inside, outside))

    def test_more_trees_with(self):
        dice = random.Random(7)
        for body in small_bodies():
            for _ in range(60):
                inside = tuple(sorted(dice.sample(edges_of(body), dice.randint(0, 5))))
                outside = tuple(sorted(dice.sample(edges_of(body), dice.randint(0, 4))))
                self.assertEqual(trees_with(body, inside, outside), slow_trees_with(body, inside, outside))
        for body in some_bodies(10, 12, 1) + [ball()]:
            tree = drawn_tree(body, 3)
            self.assertEqual(trees_with(body, tree, ()), 1)
            self.assertEqual(trees_with(body, (), rest(body, tree)), 1)
            self.assertEqual(trees_with(body, tree, rest(body, tree)), 1)
            self.assertEqual(trees_with(body, (), tree), 0)
            self.assertEqual(trees_with(body, tree[:1], tree[:1]), 0)
            for edge in edges_of(body):
                both = trees_with(body, (edge,), ()), trees_with(body, (), (edge,))
                self.assertEqual(sum(both), count_trees(body, "corners"))

    def test_no_edges(self):
        wrong = [((0, 2), (0, 1)), ((0, 1), (0, 1)), ((1, 0),), ((0, True),), (0, 1), [(0, 1)], ((0, 9),)]
        for number, value in enumerate(wrong + [value for value in odd_values() if type(value) is not tuple or value]):
            for args in ((value, ()), ((), value)):
                with self.assertRaises(InvalidEdges, msg=number):
                    trees_with(F, *args)
            with self.assertRaises(InvalidEdges, msg=number):
                rest(F, value)

    def test_shares(self):
        for body in small_bodies():
            for edge in edges_of(body):
                told = Fraction(sum(edge in tree for tree in all_trees(body)), len(all_trees(body)))
                self.assertEqual(share(body, edge), (told.numerator, told.denominator))
        for body in some_bodies(7, 12, 2) + [ball()]:
            shares = [share(body, edge) for edge in edges_of(body)]
            self.assertEqual(sum(Fraction(*both) for both in shares), 2 * len(body) - 5)
            for (top, below), edge in zip(shares, edges_of(body)):
                told = Fraction(trees_with(body, (edge,), ()), count_trees(body, "corners"))
                self.assertEqual((top, below), (told.numerator, told.denominator))


class Indexes(unittest.TestCase):
    def test_all_indexes(self):
        for body in (F, P, K, Q, drawn(6, 1), drawn(6, 2), drawn(6, 5), drawn(7, 1)):
            trees = all_trees(body)
            found = [tree_at(body, index) for index in range(len(trees))]
            self.assertEqual(found, trees)
            self.assertEqual(found, sorted(found))
            self.assertEqual([index_of(body, tree) for tree in found], list(range(len(trees))))
        self.assertEqual(len({tree_at(K, index) for index in range(384)}), 384)

    def test_great_bodies(self):
        dice = random.Random(2)
        for body in some_bodies(9, 12, 1) + [ball()]:
            many = count_trees(body, "corners")
            places = sorted({0, 1, many - 2, many - 1} | {dice.randrange(many) for _ in range(6)})
            trees = [tree_at(body, index) for index in places]
            self.assertEqual(trees, sorted(trees))
            self.assertTrue(all(is_edge_tree(body, tree) for tree in trees))
            self.assertEqual([index_of(body, tree) for tree in trees], places)
            for index in (-1, many, many + 1, True, None, "0", (0,), 10 ** 119, -(10 ** 119)):
                with self.assertRaises(InvalidNumber):
                    tree_at(body, index)

    def test_sums(self):
        dice = random.Random(4)
        for body in small_bodies():
            many = len(edges_of(body))
            rows = [(0,) * many, (1,) * many, (-1,) * many, (10 ** 6,) * many, (0, 1) * many]
            rows += [tuple(dice.choice([0, 1, -1, 10 ** 6, -10 ** 6, dice.randint(-9, 9)]) for _ in range(many))
                     for _ in range(12)]
            for row in rows:
                weights = dict(zip(edges_of(body), row))
                told = sum(prod(weights[edge] for edge in tree) for tree in all_trees(body))
                self.assertEqual(tree_sum(body, row[:many]), told)

    def test_great_sums(self):
        for body in (ball(), drum(10)):
            many = count_trees(body, "corners")
            self.assertEqual(tree_sum(body, (1,) * 30), many)
            self.assertEqual(tree_sum(body, (-10 ** 6,) * 30), -many * 10 ** 114)
            self.assertEqual(tree_sum(body, (0,) * 30), 0)
            for edge in edges_of(body)[::7]:
                row = tuple(0 if other == edge else 1 for other in edges_of(body))
                self.assertEqual(tree_sum(body, row), trees_with(body, (), (edge,)))
