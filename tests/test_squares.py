"""Rectangles filled with squares, and those that bodies make."""

import unittest
from math import gcd

from huesandrounds.errors import InvalidFilled
from huesandrounds.squares import crosses, is_filled, is_perfect, perfect_gaps, rectangle, still, turned
from huesandrounds.thick import tiled
from huesandrounds.wires import flows, least_flows, levels, measure, places, sizes
from tests.brute import begin_and_end, corners_of, edges_of
from tests.support import F, K, P, Q, ball, bent, deep, drum, odd_integers, odd_values, some_bodies

L = (33, 32, ((0, 0, 18), (0, 18, 14), (14, 18, 4), (14, 22, 10), (18, 0, 15), (18, 15, 7), (24, 22, 1), (24, 23, 9),
              (25, 15, 8)))
ONE = (1, 1, ((0, 0, 1),))


def grid(wide, high, side=1):
    squares = tuple((left * side, top * side, side) for left in range(wide) for top in range(high))
    return (wide * side, high * side, squares)


def slow_filled(value):
    """Whether a filled rectangle of right kinds of values covers each unit of it once."""
    width, height, squares = value
    units = [(across, down) for left, top, side in squares
             for across in range(left, left + side) for down in range(top, top + side)]
    return sorted(units) == [(across, down) for across in range(width) for down in range(height)]


class Rectangles(unittest.TestCase):
    def test_still_edges(self):
        for body in some_bodies(4, 12, 1) + [K, ball()]:
            for gap in edges_of(body)[::5]:
                told = [edge for edge, flow in zip(edges_of(body), flows(body, gap)) if flow == 0]
                self.assertEqual(still(body, gap), told)
        self.assertEqual(still(F, (0, 1)), [(2, 3)])
        self.assertEqual(still(K, (0, 1)), [])

    def test_all_squares(self):
        for body in some_bodies(4, 12, 1) + [K, Q, ball()]:
            for gap in edges_of(body)[::5]:
                common = measure(body, gap)
                level = {corner: item // common for corner, item in zip(corners_of(body), levels(body, gap))}
                place = [item // common for item in places(body, gap)]
                told = []
                for edge, flow in zip(edges_of(body), least_flows(body, gap)):
                    if edge != gap and flow != 0:
                        ends = begin_and_end(body, edge)
                        told.append((min(place[face] for face in edge), min(level[end] for end in ends), abs(flow)))
                width, height = sizes(body, gap)
                self.assertEqual(rectangle(body, gap), (width // common, height // common, tuple(sorted(told))))

    def test_they_are_filled(self):
        for body in some_bodies(4, 12, 2) + [K, Q, ball()]:
            for gap in edges_of(body)[::3]:
                filled = rectangle(body, gap)
                self.assertIs(is_filled(filled), True)
                width, height, squares = filled
                least = [flow for edge, flow in zip(edges_of(body), least_flows(body, gap)) if edge != gap]
                self.assertEqual(sum(flow ** 2 for flow in least), width * height)
                self.assertEqual(gcd(width, *[side for _, _, side in squares]), 1)
                _, _, tiles = tiled(body, gap, (1,) * len(edges_of(body)))
                self.assertEqual([(wide, high) for _, _, wide, high in tiles],
                                 [(side * measure(body, gap),) * 2 for _, _, side in squares])

    def test_perfect_gaps(self):
        found = []
        for body in some_bodies(4, 12, 2) + [K, Q, ball()]:
            told = [gap for gap in edges_of(body) if not still(body, gap) and is_perfect(rectangle(body, gap))]
            self.assertEqual(perfect_gaps(body), told)
            found.extend(told)
        self.assertGreater(len(found), 20)
        self.assertEqual(perfect_gaps(drum(10)), [])


class Filled(unittest.TestCase):
    def test_against_units(self):
        rows = [L, ONE, grid(2, 2), grid(3, 2), (3, 2, ((0, 0, 2), (2, 0, 1), (2, 1, 1))), rectangle(P, (0, 1))]
        self.assertTrue(all(is_filled(value) and slow_filled(value) for value in rows))
        for width, height, squares in rows:
            near = [(width + 1, height, squares), (width, height - 1, squares), (height + 1, width, squares)]
            for at, (left, top, side) in enumerate(squares):
                for square in ((left + 1, top, side), (left, top + 1, side), (left, top, side + 1),
                               (left - 1, top, side), (left, top - 1, side), (left, top, side - 1)):
                    near.append((width, height, tuple(sorted(squares[:at] + (square,) + squares[at + 1:]))))
                near.append((width, height, squares[:at] + squares[at + 1:]))
            for value in near:
                self.assertIs(is_filled(value), False, value)

    def test_as_great_but_not_filled(self):
        # Together these squares are as great as the rectangle, but lie over one another, or out of it.
        for value in ((2, 2, ((0, 0, 1), (0, 0, 1), (0, 1, 1), (1, 1, 1))), (5, 2, ((0, 0, 2), (1, 0, 2), (3, 0, 1),
                      (4, 0, 1))), (2, 2, ((0, 0, 1), (0, 1, 1), (1, 0, 1), (2, 1, 1))), (1, 4, ((0, 0, 2),)),
                      (2, 2, ((0, 0, 1), (0, 1, 1), (1, 0, 1), (1, 2, 1))), (4, 1, ((0, 0, 2),))):
            self.assertIs(is_filled(value), False, value)

    def test_limits(self):
        for value in (ONE, grid(40, 1), grid(1, 40), grid(5, 8), grid(1, 1, 10 ** 12), grid(40, 1, 25 * 10 ** 9),
                      grid(1, 40, 25 * 10 ** 9)):
            self.assertIs(is_filled(value), True)
        for value in (grid(41, 1), grid(1, 41), grid(7, 6), grid(1, 1, 10 ** 12 + 1), grid(2, 1, 10 ** 12),
                      grid(1, 2, 10 ** 12), (0, 0, ()), (1, 1, ()), (0, 1, ()), (-1, -1, ((0, 0, 1),))):
            self.assertIs(is_filled(value), False)

    def test_other_values(self):
        for filled in (ONE, L, grid(2, 2), rectangle(K, (0, 1))):
            for number, value in enumerate(odd_values() + odd_integers() + bent(filled)):
                self.assertIs(is_filled(value), False, number)
            for number, value in enumerate(bent(filled[2]) + [deep(tuple, 90), (deep(tuple, 90),) * 2]):
                self.assertIs(is_filled(filled[:2] + (value,)), False, number)
        for value in ((True, 1, ((0, 0, 1),)), (1, 1, ((False, 0, 1),)), (1, 1, ((0, 0, True),)),
                      (1, 1, ((0, 0, 1, 0),)), (1, 1, [(0, 0, 1)]), [1, 1, ((0, 0, 1),)],
                      (2, 1, ((1, 0, 1), (0, 0, 1)))):
            self.assertIs(is_filled(value), False, value)

    def test_no_filled_rectangles(self):
        for call in (is_perfect, crosses, turned):
            for number, value in enumerate(odd_values() + [(2, 1, ((1, 0, 1), (0, 0, 1))), grid(41, 1)]):
                with self.assertRaises(InvalidFilled, msg=number):
                    call(value)


class Told(unittest.TestCase):
    def test_perfect_rectangles(self):
        self.assertEqual([is_perfect(value) for value in (L, ONE, grid(2, 1), grid(1, 1, 10 ** 12))],
                         [True, False, False, False])
        for body in some_bodies(5, 9, 2):
            for gap in edges_of(body)[::4]:
                sides = [side for _, _, side in rectangle(body, gap)[2]]
                self.assertIs(is_perfect(rectangle(body, gap)), len(set(sides)) == len(sides))

    def test_crosses(self):
        self.assertEqual(crosses(grid(3, 3)), [(1, 1), (1, 2), (2, 1), (2, 2)])
        self.assertEqual(crosses(grid(40, 1)), [])
        self.assertEqual(crosses(grid(2, 2, 5)), [(5, 5)])
        # Three squares meet in a point of a side of the great one.
        self.assertEqual(crosses((3, 2, ((0, 0, 2), (2, 0, 1), (2, 1, 1)))), [])
        for body in some_bodies(4, 10, 2):
            for gap in edges_of(body)[::4]:
                filled = rectangle(body, gap)
                met = [point for left, top, side in filled[2] for point in
                       ((left, top), (left + side, top), (left, top + side), (left + side, top + side))]
                self.assertEqual(crosses(filled), sorted({point for point in met if met.count(point) == 4}))

    def test_turned(self):
        for filled in (L, ONE, grid(3, 2), rectangle(Q, (0, 1)), rectangle(ball(), (0, 1))):
            other = turned(filled)
            self.assertIs(is_filled(other), True)
            self.assertEqual(turned(other), filled)
            self.assertEqual(other[:2], (filled[1], filled[0]))
            self.assertEqual(crosses(other), sorted((down, across) for across, down in crosses(filled)))
        self.assertEqual(turned(grid(3, 2)), grid(2, 3))
