"""Polynomials, golden numbers and ringless courses."""

import unittest

from huesandrounds.bodies import corners
from huesandrounds.cutting import cut
from huesandrounds.errors import InvalidNumber, TooMany
from huesandrounds.polynomials import (count_from, count_ringless, golden_at, is_ringless, polynomial, value_at)
from tests.brute import all_hues_by, courses, edges_of, is_ringless_course, sources_of
from tests.support import F, K, P, ball, bent, drawn, drum, odd_integers, odd_values, some_bodies


def golden(one, other):
    (a, b), (c, d) = one, other
    return (a * c + b * d, a * d + b * c + b * d)


def golden_power(number, power):
    worth = (1, 0)
    for _ in range(power):
        worth = golden(worth, number)
    return worth


class Polynomial(unittest.TestCase):
    def test_numbers_of_hues(self):
        for body in some_bodies(4, 8, 2):
            numbers = polynomial(body)
            for many in range(6 if len(body) < 8 else 5):
                told = sum(number * many ** power for power, number in enumerate(numbers))
                self.assertEqual(told, len(all_hues_by(body, many)))
                self.assertEqual(value_at(body, many), told)

    def test_its_form(self):
        for body in some_bodies(4, 10):
            numbers = polynomial(body)
            self.assertIs(type(numbers), tuple)
            self.assertEqual(len(numbers), len(body) + 1)
            self.assertEqual((numbers[0], numbers[-1]), (0, 1))
            self.assertEqual(numbers[-2], -len(edges_of(body)))
            turns = [number * (-1) ** (len(body) - power) for power, number in enumerate(numbers)]
            self.assertTrue(all(number > 0 for number in turns[1:]))

    def test_values(self):
        top = 10 ** 12
        for body in some_bodies(4, 10, 2):
            numbers = polynomial(body)
            for number in (-top, -7, -1, 0, 1, 2, 3, 11, top):
                told = sum(item * number ** power for power, item in enumerate(numbers))
                self.assertEqual(value_at(body, number), told)
            for number in (-top - 1, top + 1, True, None, (1,)):
                with self.assertRaises(InvalidNumber):
                    value_at(body, number)

    def test_golden_values(self):
        for body in some_bodies(4, 10, 2):
            numbers = polynomial(body)
            for pair in ((0, 0), (1, 0), (0, 1), (3, -2), (-1000, 1000), (1000, 1000), (-5, 7)):
                plain, shining = 0, 0
                for power, item in enumerate(numbers):
                    a, b = golden_power(pair, power)
                    plain, shining = plain + item * a, shining + item * b
                self.assertEqual(golden_at(body, pair), (plain, shining))

    def test_the_golden_law(self):
        for body in some_bodies(4, 10):
            one, two = golden_at(body, (1, 1)), golden_at(body, (2, 1))
            told = golden(golden((2, 1), golden_power((0, 1), 3 * len(body) - 10)), golden(one, one))
            self.assertEqual(two, told)

    def test_a_corner_cut_off(self):
        for body in some_bodies(4, 9, 2):
            more = polynomial(cut(body, (corners(body)[0], -1)))
            numbers = polynomial(body)
            self.assertEqual(more, tuple(one - 3 * other for one, other in zip((0,) + numbers, numbers + (0,))))

    def test_ten_faces_are_the_most(self):
        for call, args in ((polynomial, ()), (value_at, (3,)), (golden_at, ((1, 1),)), (count_ringless, ()),
                           (count_from, (0,))):
            call(drum(8), *args)
            for body in (drum(9), drawn(12, 3)):
                with self.assertRaises(TooMany) as told:
                    call(body, *args)
                self.assertEqual(told.exception.limit, 10)


class Ringless(unittest.TestCase):
    def test_all_courses(self):
        for body in [F, P, K] + [drawn(6, seed) for seed in range(2)]:
            ringless = [course for course in courses(body) if is_ringless_course(body, course)]
            self.assertEqual([course for course in courses(body) if is_ringless(body, course)], ringless)
            self.assertEqual(count_ringless(body), len(ringless))
            for face in range(len(body)):
                many = sum(sources_of(body, course) == [face] for course in ringless)
                self.assertEqual(count_from(body, face), many)

    def test_numbers(self):
        for body in some_bodies(4, 10):
            self.assertEqual(count_ringless(body), abs(value_at(body, -1)))
            self.assertEqual({count_from(body, face) for face in range(len(body))}, {abs(polynomial(body)[1])})

    def test_great_bodies(self):
        for body in (drum(10), ball(), drawn(12, 0)):
            course = (1,) * 30
            self.assertIs(is_ringless(body, course), True)
            self.assertIs(is_ringless(body, (-1,) * 30), True)
            for at in range(30):
                bentway = course[:at] + (-1,) + course[at + 1:]
                self.assertIs(is_ringless(body, bentway), is_ringless_course(body, bentway))
            for number, value in enumerate(odd_values() + odd_integers() + bent(course)):
                self.assertIs(is_ringless(body, value), False, number)
