"""Exchanges of trees, ways between trees, and the cheapest ones."""

import random
import unittest

from huesandrounds.errors import InvalidEdge, InvalidExchange, InvalidPrices, InvalidTree
from huesandrounds.exchanging import better, exchanged, exchanges, least_tree, ring_of, way_between
from tests.brute import all_trees, edges_of, ends_of, is_spanning, way_in
from tests.support import F, K, P, ball, bent, drawn, drawn_tree, drum, odd_values, some_bodies
from tests.test_prices import drawn_prices, price_of


def swapped(tree, out, into):
    return tuple(sorted([edge for edge in tree if edge != out] + [into]))


def slow_exchanges(body, tree):
    swaps = [(out, into) for out in tree for into in edges_of(body) if into not in tree]
    return [both for both in swaps if is_spanning(body, "corners", swapped(tree, *both))]


def some_trees(body):
    return all_trees(body)[::17] if len(body) <= 6 else [drawn_tree(body, seed) for seed in range(4)]


class Exchanges(unittest.TestCase):
    def test_lists(self):
        for body in some_bodies(4, 8, 1) + [K, ball()]:
            for tree in some_trees(body)[:6]:
                slow = slow_exchanges(body, tree)
                self.assertEqual(exchanges(body, tree), slow)
                for out, into in slow[::3]:
                    self.assertEqual(exchanged(body, tree, (out, into)), swapped(tree, out, into))

    def test_no_exchanges(self):
        for body in (F, P, K):
            for tree in all_trees(body)[::40]:
                fine = slow_exchanges(body, tree)
                for out in edges_of(body):
                    for into in edges_of(body):
                        if (out, into) not in fine:
                            with self.assertRaises(InvalidExchange):
                                exchanged(body, tree, (out, into))
                odd = [tuple(tuple(item == 1 or item for item in edge) for edge in both) for both in fine]
                odd = [both for both in odd if any(item is True for edge in both for item in edge)]
                odd += [(list(out), into) for out, into in fine] + [(out, list(into)) for out, into in fine]
                for number, value in enumerate(odd_values() + bent(fine[0]) + [fine[0] * 2, fine[0][::-1]] + odd):
                    with self.assertRaises(InvalidExchange, msg=number):
                        exchanged(body, tree, value)

    def test_rings(self):
        for body in some_bodies(4, 12, 1) + [K, ball()]:
            for tree in some_trees(body)[:4]:
                for edge in edges_of(body):
                    if edge in tree:
                        with self.assertRaises(InvalidEdge):
                            ring_of(body, tree, edge)
                    else:
                        told = way_in(body, tree, *ends_of(body, edge))
                        self.assertEqual(ring_of(body, tree, edge), tuple(sorted(told)))


class Ways(unittest.TestCase):
    def check_way(self, body, one, other):
        way = way_between(body, one, other)
        self.assertIs(type(way), tuple)
        self.assertEqual(len(way), len(set(one) - set(other)))
        for step in way:
            self.assertIn(step, slow_exchanges(body, one))
            one = exchanged(body, one, step)
        self.assertEqual(one, other)

    def test_ways(self):
        for body in some_bodies(4, 6, 1) + [K]:
            for one in all_trees(body)[::37]:
                for other in all_trees(body)[::41]:
                    self.check_way(body, one, other)
        for body in some_bodies(10, 12, 1) + [ball()]:
            for one in some_trees(body)[:2]:
                for other in some_trees(body)[1:3]:
                    self.check_way(body, one, other)

    def test_no_trees(self):
        tree = all_trees(F)[0]
        for number, value in enumerate(odd_values() + bent(tree)):
            with self.assertRaises(InvalidTree, msg=number):
                way_between(F, tree, value)
            with self.assertRaises(InvalidTree, msg=number):
                way_between(F, value, value)


class Prices(unittest.TestCase):
    def test_least_trees(self):
        for body in some_bodies(4, 6, 2) + [K]:
            for seed in range(12):
                prices = drawn_prices(body, seed)
                told = min((price_of(body, tree, prices), tree) for tree in all_trees(body))
                self.assertEqual(least_tree(body, prices), told[1])
            for price in (0, 10 ** 20):
                self.assertEqual(least_tree(body, (price,) * len(edges_of(body))), all_trees(body)[0])

    def test_better(self):
        for body in some_bodies(4, 6, 1) + [K]:
            for seed in range(6):
                prices = drawn_prices(body, seed)
                worth = dict(zip(edges_of(body), prices))
                least = price_of(body, least_tree(body, prices), prices)
                for tree in all_trees(body)[::29]:
                    fine = [both for both in slow_exchanges(body, tree) if worth[both[1]] < worth[both[0]]]
                    told = better(body, tree, prices)
                    self.assertEqual(told, fine[0] if fine else None)
                    self.assertEqual(told is None, price_of(body, tree, prices) == least)

    def test_great_bodies(self):
        for body in (ball(), drum(10), drawn(12, 3), drawn(11, 3)):
            for seed in range(4):
                prices = drawn_prices(body, seed)
                tree = least_tree(body, prices)
                self.assertTrue(is_spanning(body, "corners", tree))
                self.assertIsNone(better(body, tree, prices))
                # Each exchange that costs nothing leads to a tree that comes later.
                worth = dict(zip(edges_of(body), prices))
                for out, into in slow_exchanges(body, tree):
                    if worth[out] == worth[into]:
                        self.assertLess(tree, swapped(tree, out, into))
                other = drawn_tree(body, seed)
                while better(body, other, prices) is not None:
                    other = exchanged(body, other, better(body, other, prices))
                self.assertEqual(price_of(body, other, prices), price_of(body, tree, prices))

    def test_no_prices(self):
        dice = random.Random(1)
        tree = dice.choice(all_trees(P))
        for number, value in enumerate(odd_values() + [(0,) * 8, (-1,) * 9, (10 ** 20 + 1,) * 9, (True,) * 9]):
            with self.assertRaises(InvalidPrices, msg=number):
                least_tree(P, value)
            with self.assertRaises(InvalidPrices, msg=number):
                better(P, tree, value)
