"""Flows between the ends of the gap, levels of corners and places of faces."""

import unittest
from math import gcd

from huesandrounds.errors import InvalidEdge
from huesandrounds.trees import count_trees, trees_with
from huesandrounds.wires import are_flows, flows, least_flows, levels, measure, places, sizes
from tests.brute import (all_trees, begin_and_end, corners_of, edges_of, ends_of, lots_by, ties_of, turned_of, way_in)
from tests.support import F, K, P, Q, ball, bent, drawn, drum, odd_integers, odd_values, pair, some_bodies


def slow_flows(body, gap):
    """The flows, counted over all trees without the gap."""
    first, second = begin_and_end(body, gap)[::-1]
    sums = {edge: 0 for edge in edges_of(body)}
    for tree in all_trees(body):
        if gap in tree:
            continue
        sums[gap] += 1
        here = first
        for edge in way_in(body, tree, first, second):
            tail, head = begin_and_end(body, edge)
            sums[edge] += 1 if here == tail else -1
            here = head if here == tail else tail
    return tuple(sums.values())


def slow_levels(body, gap):
    second = begin_and_end(body, gap)[0]
    sums = dict.fromkeys(corners_of(body), 0)
    for tree in all_trees(body):
        if gap in tree:
            lot = lots_by(corners_of(body), ties_of(body, "corners", [edge for edge in tree if edge != gap]))
            for corner in sums:
                sums[corner] += lot[corner] == lot[second]
    return tuple(sums.values())


def slow_places(body, gap):
    sums = [0] * len(body)
    for tree in all_trees(body, "faces"):
        if gap in tree:
            lot = lots_by(range(len(body)), [edge for edge in tree if edge != gap])
            for face in range(len(body)):
                sums[face] += lot[face] == lot[gap[1]]
    return tuple(sums)


class Wires(unittest.TestCase):
    def test_against_all_trees(self):
        for body in [F, P, Q, drawn(5, 1), drawn(6, 4), drum(4)]:
            for gap in edges_of(body)[::2] if len(body) < 6 else edges_of(body)[1::5]:
                self.assertEqual(flows(body, gap), slow_flows(body, gap))
                self.assertEqual(levels(body, gap), slow_levels(body, gap))
                self.assertEqual(places(body, gap), slow_places(body, gap))

    def test_what_holds_for_all_bodies(self):
        for body in some_bodies(4, 12, 2) + [K, ball()]:
            edges = edges_of(body)
            for gap in edges[::4]:
                told = dict(zip(edges, flows(body, gap)))
                level = dict(zip(corners_of(body), levels(body, gap)))
                place = places(body, gap)
                width, height = sizes(body, gap)
                self.assertEqual(width, trees_with(body, (), (gap,)))
                self.assertEqual(height, trees_with(body, (gap,), ()))
                self.assertEqual(width + height, count_trees(body, "corners"))
                self.assertEqual(told[gap], width)
                tail, head = begin_and_end(body, gap)
                self.assertEqual((level[head], level[tail]), (0, height))
                self.assertEqual((min(level.values()), max(level.values())), (0, height))
                self.assertEqual((place[gap[0]], place[gap[1]]), (0, width))
                for a, b, c in turned_of(body).values():
                    trio = ((a, b), (b, c), (c, a))
                    self.assertEqual(sum(told[pair(*edge)] * (1 if edge == pair(*edge) else -1) for edge in trio), 0)
                for edge in edges:
                    self.assertEqual(told[edge], place[edge[1]] - place[edge[0]])
                    if edge != gap:
                        tail, head = begin_and_end(body, edge)
                        self.assertEqual(told[edge], level[head] - level[tail])

    def test_measures(self):
        for body in some_bodies(4, 12, 2) + [K, Q, ball()]:
            for gap in edges_of(body)[::6]:
                row = flows(body, gap)
                self.assertEqual(measure(body, gap), gcd(*row))
                least = least_flows(body, gap)
                self.assertEqual(tuple(item * measure(body, gap) for item in least), row)
                self.assertEqual(gcd(*least), 1)
                self.assertGreater(least[edges_of(body).index(gap)], 0)

    def test_are_flows(self):
        for body in some_bodies(4, 12, 1) + [K, ball()]:
            many = len(edges_of(body))
            for gap in edges_of(body)[1::11]:
                least = least_flows(body, gap)
                for times in (1, -1, 2, -3, measure(body, gap), 10 ** 100):
                    row = tuple(times * item for item in least)
                    self.assertIs(are_flows(body, gap, row), True)
                    for at in range(0, many, 4):
                        for more in (1, -1):
                            self.assertIs(are_flows(body, gap, row[:at] + (row[at] + more,) + row[at + 1:]), False)
                self.assertIs(are_flows(body, gap, (0,) * many), False)
                self.assertIs(are_flows(body, gap, least + (0,)), False)
                for number, value in enumerate(odd_values() + odd_integers() + bent(least)):
                    if type(value) is not tuple or value != least or bool in map(type, value):
                        self.assertIs(are_flows(body, gap, value), False, number)

    def test_booleans_are_no_flows(self):
        least = least_flows(F, (0, 1))
        self.assertEqual(least, (2, 1, 1, -1, -1, 0))
        for value in ((2, True, 1, -1, -1, 0), (2, 1, 1, -1, -1, False), [2, 1, 1, -1, -1, 0], (2, 1, 1, -1, -1)):
            self.assertIs(are_flows(F, (0, 1), value), False)
        # All flows but that of the gap may be odd parts of the least ones.
        self.assertIs(are_flows(F, (0, 1), (1, 0, 0, 0, 0, 0)), False)
        self.assertIs(are_flows(F, (0, 1), (3, 1, 1, -1, -1, 0)), False)

    def test_no_gaps(self):
        wrong = [(1, 0), (0, 0), (0, 4), (0, True), [0, 1], 0, None, (0, 1, 2)]
        for call in (sizes, flows, levels, places, measure, least_flows):
            for number, gap in enumerate(wrong + odd_values()):
                with self.assertRaises(InvalidEdge, msg=number):
                    call(F, gap)
        with self.assertRaises(InvalidEdge):
            are_flows(P, (0, 4), None)
        self.assertEqual(ends_of(F, (0, 1)), ((0, 1, 2), (0, 1, 3)))
