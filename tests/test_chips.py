"""Chips on corners and on faces: loads and low ones, piles and lasting ones."""

import random
import unittest
from fractions import Fraction
from itertools import product
from math import gcd, prod

from huesandrounds.chips import (alike_loads, invariants, is_lasting, is_load, lasting, low, neutral, order_of, sent,
                                 settled)
from huesandrounds.errors import InvalidLoad, InvalidNumber, InvalidPile, InvalidWeb
from huesandrounds.trees import count_trees
from tests.brute import corners_of, near_of
from tests.support import F, K, P, Q, ball, drawn, drum, odd_integers, odd_values, some_bodies

WEBS = ("corners", "faces")
MOST = 10 ** 9


def near_on(body, on):
    """For each place the places to which it is tied."""
    if on == "faces":
        return [list(ring) for ring in body]
    corners = corners_of(body)
    return [[corners.index(other) for other in near_of(body, corner)] for corner in corners]


def sends_between(body, on, one, other):
    """The sends, as fractions, of all places but the place 0 that lead from the one to the other load."""
    near = near_on(body, on)
    rows = []
    for place in range(1, len(near)):
        row = [Fraction(near[place].count(there) * -1) for there in range(1, len(near))]
        row[place - 1] = Fraction(len(near[place]))
        rows.append(row + [Fraction(one[place] - other[place])])
    for at in range(len(rows)):
        rows[at] = [item / rows[at][at] for item in rows[at]]
        for there in range(len(rows)):
            if there != at:
                rows[there] = [item - rows[there][at] * above for item, above in zip(rows[there], rows[at])]
    return [row[-1] for row in rows]


def are_alike(body, on, one, other):
    return sum(one) == sum(other) and all(many.denominator == 1 for many in sends_between(body, on, one, other))


def is_low(body, on, load):
    """Whether a load is low: all lots of places are tried."""
    near = near_on(body, on)
    if min(load[1:]) < 0:
        return False
    for lot in product((False, True), repeat=len(load) - 1):
        some = [at + 1 for at, taken in enumerate(lot) if taken]
        held = {at: load[at] - len(near[at]) for at in some}
        for at in some:
            for there in near[at]:
                if there in held:
                    held[there] += 1
        if some and min(held.values()) >= 0:
            return False
    return True


def slow_settled(body, on, pile, dice):
    """A pile settled, one send after another, drawn of all that are possible."""
    near = near_on(body, on)
    held = [0] + list(pile)
    while True:
        full = [at for at in range(1, len(held)) if held[at] >= len(near[at])]
        if not full:
            return tuple(held[1:])
        at = dice.choice(full)
        held[at] -= len(near[at])
        for there in near[at]:
            held[there] += 1


def slow_lasting(body, on, pile, dice):
    more = list(pile)
    for there in near_on(body, on)[0]:
        more[there - 1] += 1
    return slow_settled(body, on, more, dice) == tuple(pile)


def settled_piles(body, on):
    return product(*[range(len(near)) for near in near_on(body, on)[1:]])


def small_webs():
    return [(F, "corners"), (F, "faces"), (P, "faces"), (P, "corners"), (drawn(6, 1), "faces"), (K, "faces")]


def size_of(body, on):
    return len(near_on(body, on))


def drawn_load(body, on, dice, most):
    return tuple(dice.randint(-most, most) for _ in range(size_of(body, on)))


def evened(load):
    return (load[0] - sum(load),) + load[1:]


class Loads(unittest.TestCase):
    def test_loads(self):
        for body in some_bodies(4, 12, 1):
            for on in WEBS:
                many = size_of(body, on)
                for row in ((0,) * many, (MOST,) * many, (-MOST,) * many):
                    self.assertIs(is_load(body, on, row), True)
                    self.assertIs(is_load(body, on, row[1:]), False)
                    self.assertIs(is_load(body, on, row + (0,)), False)
                for row in ((MOST + 1,) + (0,) * (many - 1), (0,) * (many - 1) + (-MOST - 1,), [0] * many):
                    self.assertIs(is_load(body, on, row), False)
                for number, value in enumerate(odd_values() + odd_integers()):
                    self.assertIs(is_load(body, on, value), False, number)
        for number, on in enumerate(odd_values() + ["corner", "Faces", 0]):
            with self.assertRaises(InvalidWeb, msg=number):
                is_load(F, on, (0,) * 4)

    def test_sends(self):
        dice = random.Random(1)
        for body in some_bodies(4, 12, 1):
            for on in WEBS:
                near = near_on(body, on)
                for load in (drawn_load(body, on, dice, 9), (-MOST,) * len(near), (MOST,) * len(near)):
                    for place in range(len(near)):
                        told = [many + near[place].count(at) for at, many in enumerate(load)]
                        told[place] -= len(near[place])
                        self.assertEqual(sent(body, on, load, place), tuple(told))
                        if max(map(abs, load)) < 99:
                            self.assertIs(alike_loads(body, on, load, tuple(told)), True)
                    for place in (-1, len(near), True, None, "0", (0,), 10 ** 119):
                        with self.assertRaises(InvalidNumber):
                            sent(body, on, load, place)

    def test_alike_loads(self):
        dice = random.Random(2)
        met = {True: 0, False: 0}
        for body in some_bodies(4, 8, 1) + [K]:
            for on in WEBS:
                for _ in range(25):
                    one = drawn_load(body, on, dice, 3)
                    other = one
                    for _ in range(dice.randint(0, 9)):
                        other = sent(body, on, other, dice.randrange(len(one)))
                    if dice.random() < 0.5:
                        at = dice.randrange(1, len(one))
                        other = (other[0] - 1,) + other[1:at] + (other[at] + 1,) + other[at + 1:]
                    fine = are_alike(body, on, one, other)
                    self.assertIs(alike_loads(body, on, one, other), fine)
                    met[fine] += 1
                    self.assertIs(alike_loads(body, on, one, one[:-1] + (one[-1] + 1,)), False)
                    self.assertIs(alike_loads(body, on, one, (one[0] + 1,) + one[1:]), False)
        self.assertGreater(min(met.values()), 90)


class Invariants(unittest.TestCase):
    def test_invariants(self):
        for body in some_bodies(4, 12, 3) + [K, Q, ball()]:
            told = invariants(body, "corners")
            self.assertIs(type(told), tuple)
            self.assertEqual(told, invariants(body, "faces"))
            self.assertEqual(prod(told), count_trees(body, "corners"))
            self.assertGreater(min(told), 1)
            self.assertTrue(all(after % ahead == 0 for ahead, after in zip(told, told[1:])))

    def test_how_many_loads_have_each_order(self):
        for body, on in small_webs():
            told = invariants(body, on)
            orders = [order_of(body, on, (-sum(pile),) + pile) for pile in lasting_piles(body, on)]
            for many in sorted(set(orders) | {1, 2, 3, 4, 6}):
                self.assertEqual(sum(many % order == 0 for order in orders), prod(gcd(many, item) for item in told))

    def test_known_ones(self):
        self.assertEqual([invariants(body, "faces") for body in (F, P, K)], [(4, 4), (5, 15), (2, 8, 24)])
        self.assertEqual(invariants(drum(5), "corners"), invariants(drum(5), "faces"))

    def test_orders(self):
        dice = random.Random(5)
        for body in some_bodies(4, 12, 1) + [K]:
            for on in WEBS:
                self.assertEqual(order_of(body, on, (0,) * size_of(body, on)), 1)
                for most in (1, 5, MOST // 99):
                    load = evened(drawn_load(body, on, dice, most))
                    order = order_of(body, on, load)
                    zero = (0,) * len(load)
                    self.assertTrue(are_alike(body, on, [order * many for many in load], zero))
                    for less in range(1, order):
                        if order % less == 0:
                            self.assertFalse(are_alike(body, on, [less * many for many in load], zero))
                for load in ((1,) + (0,) * (size_of(body, on) - 1), (1,) * size_of(body, on)):
                    with self.assertRaises(InvalidLoad):
                        order_of(body, on, load)


class Low(unittest.TestCase):
    def test_low_loads(self):
        dice = random.Random(3)
        for body in some_bodies(4, 7, 1) + [K]:
            for on in WEBS:
                for most in (1, 4, 50, MOST):
                    load = drawn_load(body, on, dice, most)
                    told = low(body, on, load)
                    self.assertIs(type(told), tuple)
                    self.assertTrue(is_low(body, on, told))
                    self.assertTrue(are_alike(body, on, load, told))
                    self.assertEqual(low(body, on, sent(body, on, load, 1)) if most < MOST else told, told)

    def test_just_one_is_low(self):
        for body, on in small_webs():
            found = []
            for row in settled_piles(body, on):
                load = (-sum(row),) + row
                fine = is_low(body, on, load)
                self.assertIs(low(body, on, load) == load, fine)
                found.extend([load] if fine else [])
            self.assertEqual(len(found), count_trees(body, on))
            for one in found[:9]:
                self.assertFalse(any(alike_loads(body, on, one, other) for other in found if one != other))

    def test_great_loads(self):
        for body in (ball(), drum(10), drawn(12, 8)):
            for on in WEBS:
                many = size_of(body, on)
                for load in ((MOST,) * many, (-MOST,) * many, (MOST, -MOST) * (many // 2)):
                    told = low(body, on, load)
                    self.assertTrue(are_alike(body, on, load, told))
                    if on == "faces":
                        self.assertTrue(is_low(body, on, told))
                    pile = lasting(body, on, load)
                    self.assertTrue(is_lasting(body, on, pile))
                    self.assertTrue(are_alike(body, on, load, (sum(load) - sum(pile),) + pile))

    def test_no_loads(self):
        for body in (F, P, ball()):
            for on in WEBS:
                fine = (0,) * size_of(body, on)
                wrong = [fine + (0,), fine[1:], (MOST + 1,) + fine[1:], fine[1:] + (-MOST - 1,), list(fine)]
                wrong.append((True,) + fine[1:])
                for number, value in enumerate(wrong + odd_values()):
                    for call in (low, lasting, order_of):
                        with self.assertRaises(InvalidLoad, msg=number):
                            call(body, on, value)
                    with self.assertRaises(InvalidLoad, msg=number):
                        sent(body, on, value, -1)
                    with self.assertRaises(InvalidLoad, msg=number):
                        alike_loads(body, on, fine, value)


def lasting_piles(body, on):
    dice = random.Random(0)
    return [pile for pile in settled_piles(body, on) if slow_lasting(body, on, pile, dice)]


class Piles(unittest.TestCase):
    def test_settled(self):
        dice = random.Random(4)
        for body in some_bodies(4, 9, 1) + [K]:
            for on in WEBS:
                many = size_of(body, on) - 1
                rows = [tuple(dice.randint(0, most) for _ in range(many)) for most in (2, 5, 20)]
                for pile in rows + [(0,) * many]:
                    self.assertEqual(settled(body, on, pile), slow_settled(body, on, pile, dice))

    def test_great_piles(self):
        dice = random.Random(6)
        for body in (ball(), drum(10), drawn(12, 8)):
            for on in WEBS:
                pile = (60,) * (size_of(body, on) - 1)
                told = settled(body, on, pile)
                self.assertEqual(told, slow_settled(body, on, pile, dice))
                self.assertTrue(is_lasting(body, on, told))

    def test_lasting_piles(self):
        for body, on in small_webs():
            fine = lasting_piles(body, on)
            self.assertEqual(len(fine), count_trees(body, on))
            for pile in settled_piles(body, on):
                self.assertIs(is_lasting(body, on, pile), pile in fine)
                if pile in fine:
                    self.assertEqual(lasting(body, on, (7,) + pile), pile)
            zero = neutral(body, on)
            self.assertIn(zero, fine)
            for pile in fine:
                self.assertEqual(settled(body, on, tuple(one + other for one, other in zip(pile, zero))), pile)
            unsettled = [pile[:-1] + (pile[-1] + len(near_on(body, on)[-1]),) for pile in fine]
            self.assertFalse(any(is_lasting(body, on, pile) for pile in unsettled))

    def test_lasting_piles_of_loads(self):
        dice = random.Random(8)
        for body in some_bodies(4, 12, 1):
            for on in WEBS:
                for most in (1, 9, MOST):
                    load = drawn_load(body, on, dice, most)
                    pile = lasting(body, on, load)
                    self.assertTrue(slow_lasting(body, on, pile, dice))
                    self.assertTrue(are_alike(body, on, load, (sum(load) - sum(pile),) + pile))
                self.assertEqual(neutral(body, on), lasting(body, on, (0,) * size_of(body, on)))

    def test_no_piles(self):
        for body in (F, P, ball()):
            for on in WEBS:
                fine = (0,) * (size_of(body, on) - 1)
                wrong = [fine + (0,), fine[1:], (61,) + fine[1:], fine[1:] + (-1,), list(fine), (True,) + fine[1:]]
                for number, value in enumerate(wrong + odd_values() + odd_integers()):
                    for call in (settled, is_lasting):
                        with self.assertRaises(InvalidPile, msg=number):
                            call(body, on, value)
                self.assertEqual(settled(body, on, (60,) + fine[1:]), slow_settled(body, on, (60,) + fine[1:], random))
