"""Lines of filled rectangles, and the bodies that they tell."""

import unittest

from huesandrounds.bodies import is_body
from huesandrounds.errors import InvalidFilled
from huesandrounds.filling import level_lines, told_back, upright_lines
from huesandrounds.forms import alike
from huesandrounds.squares import crosses, is_filled, rectangle, still, turned
from tests.brute import edges_of
from tests.support import K, Q, ball, odd_values, some_bodies, turned_to_least
from tests.test_squares import L, ONE, grid


def slow_level_lines(filled):
    """The level lines of a rectangle of few units, gone along unit by unit."""
    width, height, squares = filled
    found = []
    for top in range(height + 1):
        left = None
        for across in range(width + 1):
            sides = [square for square in squares if top in (square[1], square[1] + square[2])]
            along = any(square[0] <= across < square[0] + square[2] for square in sides)
            if along and left is None:
                left = across
            if not along and left is not None:
                found.append((top, left, across))
                left = None
    return found


def slow_body(filled):
    """The rings of the faces that a rectangle tells, by the words of the document."""
    lines = upright_lines(filled)
    rings = []
    for line in lines:
        at, top, bottom = line
        within = [square for square in filled[2] if top <= square[1] and square[1] + square[2] <= bottom]
        ends = {square: [other for other in range(len(lines)) if lines[other][0] == square[0] + square[2]
                         and lines[other][1] <= square[1] < lines[other][2]][0] for square in within}
        begins = {square: [other for other in range(len(lines)) if lines[other][0] == square[0]
                           and lines[other][1] <= square[1] < lines[other][2]][0] for square in within}
        down = sorted([square for square in within if square[0] == at], key=lambda square: square[1])
        up = sorted([square for square in within if square[0] + square[2] == at], key=lambda square: -square[1])
        rings.append([ends[square] for square in down] + [begins[square] for square in up])
    rings[0].insert(0, len(lines) - 1)
    rings[-1].insert(0, 0)
    return tuple(turned_to_least(ring) for ring in rings)


def enlarged(filled, times):
    width, height, squares = filled
    return (width * times, height * times, tuple(tuple(item * times for item in square) for square in squares))


class Lines(unittest.TestCase):
    def test_against_units(self):
        rows = [L, ONE, grid(3, 2), grid(1, 40), (3, 2, ((0, 0, 2), (2, 0, 1), (2, 1, 1)))]
        rows += [rectangle(body, gap) for body in some_bodies(4, 6, 2) for gap in edges_of(body)[::4]]
        for filled in rows:
            self.assertEqual(level_lines(filled), slow_level_lines(filled))
            self.assertEqual(upright_lines(filled), slow_level_lines(turned(filled)))

    def test_lines_that_touch_are_one(self):
        self.assertEqual(level_lines(grid(2, 2)), [(0, 0, 2), (1, 0, 2), (2, 0, 2)])
        self.assertEqual(upright_lines(grid(2, 2)), [(0, 0, 2), (1, 0, 2), (2, 0, 2)])
        self.assertEqual(level_lines(grid(1, 1, 10 ** 12)), [(0, 0, 10 ** 12), (10 ** 12, 0, 10 ** 12)])
        # Two lines at the same height, with a square over the way between them.
        filled = (4, 2, ((0, 0, 1), (0, 1, 1), (1, 0, 2), (3, 0, 1), (3, 1, 1)))
        self.assertEqual(level_lines(filled), [(0, 0, 4), (1, 0, 1), (1, 3, 4), (2, 0, 4)])

    def test_lines_of_bodies(self):
        for body in some_bodies(4, 12, 1) + [K, ball()]:
            for gap in edges_of(body)[::6]:
                filled = rectangle(body, gap)
                for lines, (width, height) in ((level_lines(filled), filled[:2]),
                                               (upright_lines(filled), filled[1::-1])):
                    self.assertEqual(lines, sorted(set(lines)))
                    self.assertEqual((lines[0], lines[-1]), ((0, 0, width), (height, 0, width)))


class Back(unittest.TestCase):
    def test_rectangles_of_bodies(self):
        told, alike_ones = 0, 0
        for body in some_bodies(4, 12, 3) + [K, Q, ball()]:
            for gap in edges_of(body)[::2]:
                filled = rectangle(body, gap)
                both = told_back(filled)
                if both is None:
                    self.assertTrue(crosses(filled) or not is_body(slow_body(filled)))
                    continue
                told += 1
                self.assertEqual(both, (slow_body(filled), (0, len(both[0]) - 1)))
                self.assertIs(is_body(both[0]), True)
                self.assertEqual(rectangle(*both), filled)
                if not still(body, gap):
                    alike_ones += 1
                    self.assertTrue(alike(both[0], body))
        self.assertGreater(told, 50)
        self.assertGreater(alike_ones, 40)

    def test_numbers_with_a_common_divisor(self):
        filled = rectangle(Q, (0, 1))
        for times in (2, 7, 10 ** 9):
            self.assertIs(is_filled(enlarged(filled, times)), True)
            self.assertEqual(told_back(enlarged(filled, times)), told_back(filled))

    def test_turned_ones(self):
        for body in some_bodies(6, 10, 2):
            for gap in edges_of(body)[::5]:
                both = told_back(turned(rectangle(body, gap)))
                if both is not None:
                    self.assertEqual(rectangle(*both), turned(rectangle(body, gap)))

    def test_rectangles_that_tell_none(self):
        # One square, two lines alone, too many faces, two edges between the same two faces, a cross.
        for filled in (ONE, grid(1, 40), grid(40, 1), grid(12, 1), L, grid(2, 2), grid(3, 2), grid(11, 1),
                       (3, 2, ((0, 0, 2), (2, 0, 1), (2, 1, 1))), (4, 2, ((0, 0, 1), (0, 1, 1), (1, 0, 2), (3, 0, 1),
                        (3, 1, 1))), grid(1, 1, 10 ** 12)):
            self.assertIsNone(told_back(filled))

    def test_no_filled_rectangles(self):
        for call in (level_lines, upright_lines, told_back):
            wrong = [(2, 2, ((0, 0, 1),)), grid(41, 1), list(L), L[:2] + (None,)]
            for number, value in enumerate(odd_values() + wrong):
                with self.assertRaises(InvalidFilled, msg=number):
                    call(value)
