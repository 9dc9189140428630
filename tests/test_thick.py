"""Flows, levels and sizes by thicknesses, and tiles."""

import random
import unittest
from math import gcd, prod

from huesandrounds.cutting import cut
from huesandrounds.errors import InvalidEdge, InvalidThick
from huesandrounds.thick import thick_flows, thick_levels, thick_sizes, tiled
from huesandrounds.wires import flows, levels, sizes
from tests.brute import (all_trees, begin_and_end, corners_of, edges_at, edges_of, lots_by, ties_of, way_in)
from tests.support import F, K, P, Q, ball, drawn, drum, odd_values, some_bodies


def drawn_thick(body, seed):
    dice = random.Random(seed)
    return tuple(dice.choice((1, 2, 20, dice.randint(1, 20))) for _ in edges_of(body))


def slow_thick(body, gap, thick):
    """The thick flows and levels, counted over all trees."""
    worth = dict(zip(edges_of(body), thick))
    first, second = begin_and_end(body, gap)[::-1]
    flow = {edge: 0 for edge in edges_of(body)}
    level = dict.fromkeys(corners_of(body), 0)
    for tree in all_trees(body):
        many = prod(worth[edge] for edge in tree if edge != gap)
        if gap in tree:
            lot = lots_by(corners_of(body), ties_of(body, "corners", [edge for edge in tree if edge != gap]))
            for corner in level:
                level[corner] += many * (lot[corner] == lot[second])
            continue
        flow[gap] += many
        here = first
        for edge in way_in(body, tree, first, second):
            tail, head = begin_and_end(body, edge)
            flow[edge] += many if here == tail else -many
            here = head if here == tail else tail
    return tuple(flow.values()), tuple(level.values())


def lie_apart(tiles):
    for at, (left, top, wide, high) in enumerate(tiles):
        for other_left, other_top, other_wide, other_high in tiles[:at]:
            if max(left, other_left) < min(left + wide, other_left + other_wide):
                if max(top, other_top) < min(top + high, other_top + other_high):
                    return False
    return True


class Thick(unittest.TestCase):
    def test_against_all_trees(self):
        for number, body in enumerate([F, P, drawn(5, 1), Q, K]):
            for seed, gap in enumerate(edges_of(body)[::3]):
                thick = drawn_thick(body, 10 * number + seed)
                flow, level = slow_thick(body, gap, thick)
                self.assertEqual(thick_flows(body, gap, thick), flow)
                self.assertEqual(thick_levels(body, gap, thick), level)
                self.assertEqual(thick_sizes(body, gap, thick), (flow[edges_of(body).index(gap)], max(level)))

    def test_all_alike(self):
        for body in some_bodies(4, 12, 1) + [K, ball()]:
            trees = 2 * len(body) - 5
            for gap in edges_of(body)[::7]:
                for times in (1, 2, 20):
                    thick = (times,) * len(edges_of(body))
                    # Trees without the gap have so many edges, those with it one less beside it.
                    told = tuple(item * times ** trees for item in flows(body, gap))
                    self.assertEqual(thick_flows(body, gap, thick), told)
                    told = tuple(item * times ** (trees - 1) for item in levels(body, gap))
                    self.assertEqual(thick_levels(body, gap, thick), told)
                    width, height = sizes(body, gap)
                    both = (width * times ** trees, height * times ** (trees - 1))
                    self.assertEqual(thick_sizes(body, gap, thick), both)

    def test_the_gap_is_left_aside(self):
        for body in some_bodies(4, 8, 1):
            at = len(body)
            gap = edges_of(body)[at]
            thick = drawn_thick(body, 3)
            for own in (1, 7, 20):
                other = thick[:at] + (own,) + thick[at + 1:]
                self.assertEqual(tiled(body, gap, other), tiled(body, gap, thick))
                self.assertEqual(thick_flows(body, gap, other), thick_flows(body, gap, thick))

    def test_a_corner_cut_off(self):
        for body in some_bodies(4, 11, 1) + [K]:
            for corner in corners_of(body)[::3]:
                for gap in edges_of(body)[::5]:
                    if gap in edges_at(corner):
                        continue
                    thick = tuple(3 if edge in edges_at(corner) else 4 for edge in edges_of(body))
                    longer = cut(body, (corner, -1))
                    behind = dict(zip(edges_of(longer), flows(longer, gap)))
                    ahead = dict(zip(edges_of(body), thick_flows(body, gap, thick)))
                    for edge in edges_of(body):
                        self.assertEqual(behind[edge] * ahead[gap], ahead[edge] * behind[gap])


class Tiles(unittest.TestCase):
    def test_tiles_fill_the_rectangle(self):
        for number, body in enumerate(some_bodies(4, 12, 2) + [K, Q, ball()]):
            for gap in edges_of(body)[number % 3::6]:
                for thick in (drawn_thick(body, number), (1,) * len(edges_of(body)), (20,) * len(edges_of(body))):
                    width, height, tiles = tiled(body, gap, thick)
                    self.assertEqual((width, height), thick_sizes(body, gap, thick))
                    self.assertEqual(list(tiles), sorted(tiles))
                    self.assertTrue(all(left >= 0 and left + wide <= width for left, _, wide, _ in tiles))
                    self.assertTrue(all(top >= 0 and top + high <= height for _, top, _, high in tiles))
                    self.assertEqual(sum(wide * high for _, _, wide, high in tiles), width * height)
                    self.assertTrue(lie_apart(tiles))

    def test_each_tile_is_that_of_an_edge(self):
        for body in some_bodies(4, 9, 2) + [K]:
            thick = drawn_thick(body, 5)
            for gap in edges_of(body)[1::4]:
                _, _, tiles = tiled(body, gap, thick)
                told = [(abs(flow), many) for edge, flow, many in
                        zip(edges_of(body), thick_flows(body, gap, thick), thick) if flow != 0 and edge != gap]
                # A tile is as wide as it is high times how thick its edge is.
                self.assertEqual(sorted((wide, wide // high) for _, _, wide, high in tiles), sorted(told))
                self.assertTrue(all(wide % high == 0 for _, _, wide, high in tiles))

    def test_edges_without_flow_have_no_tile(self):
        self.assertEqual(len(tiled(F, (0, 1), (1,) * 6)[2]), 4)
        self.assertEqual(len(tiled(F, (0, 1), (1, 2, 1, 1, 1, 1))[2]), 5)
        self.assertEqual(gcd(*thick_flows(F, (0, 1), (1,) * 6)), 4)


class Wrong(unittest.TestCase):
    def test_no_thicknesses(self):
        wrong = [(0,) * 6, (21,) * 6, (1,) * 5, (1,) * 7, [1] * 6, (1, 1, 1, 1, 1, True), (1,) * 5 + ("1",), 1]
        for call in (thick_sizes, thick_flows, thick_levels, tiled):
            for number, value in enumerate(wrong + odd_values()):
                with self.assertRaises(InvalidThick, msg=number):
                    call(F, (0, 1), value)
                with self.assertRaises(InvalidEdge, msg=number):
                    call(P, (0, 4), value)

    def test_great_bodies(self):
        for body in (ball(), drum(10)):
            self.assertEqual(len(thick_flows(body, (0, 1), (20,) * 30)), 30)
