"""What rounds cost, and papers that none costs less."""

import random
import time
import unittest

from huesandrounds.errors import InvalidNumber, InvalidPrices, TooMany
from huesandrounds.prices import cheapest, cost, dearest, is_paper, paper
from tests.brute import all_rings, all_rounds, corners_of, edges_at, edges_of
from tests.support import F, K, P, R, ball, bent, deep, drawn, drum, odd_integers, odd_values, some_bodies

MOST = 10 ** 20


def drawn_prices(body, seed):
    dice = random.Random(seed)
    most = dice.choice([1, 2, 5, 100, MOST])
    return tuple(dice.choice([0, most, dice.randint(0, most)]) for _ in edges_of(body))


def price_of(body, some, prices):
    return sum(prices[edges_of(body).index(edge)] for edge in some)


def slow_is_paper(body, prices, number, value, taken=(), barred=()):
    """Whether a value of the form of a paper is one, by the words of the document."""
    if value[0] == "edge":
        _, edge, one, other = value
        if edge not in edges_of(body) or edge in taken or edge in barred:
            return False
        return (slow_is_paper(body, prices, number, one, taken + (edge,), barred)
                and slow_is_paper(body, prices, number, other, taken, barred + (edge,)))
    at = {corner: (sum(edge in taken for edge in edges_at(corner)), sum(edge in barred for edge in edges_at(corner)))
          for corner in corners_of(body)}
    if value[0] == "corner":
        return at[value[1]][0] == 3 or at[value[1]][1] >= 2
    if value[0] == "ring":
        return any(set(ring) <= set(taken) and len(ring) < len(corners_of(body)) for ring in all_rings(body))
    total = 0
    for corner in corners_of(body):
        if at[corner][0] > 2 or at[corner][1] > 1:
            return False
        told = [price_of(body, [edge], prices) for edge in edges_at(corner) if edge in taken]
        free = [price_of(body, [edge], prices) for edge in edges_at(corner) if edge not in taken + barred]
        total += sum(told + sorted(free)[:2 - len(told)])
    return total >= 2 * number - 1


def drawn_paper(body, dice, free):
    """A value of the form of a paper, often one."""
    if dice.random() < 0.3 or not free:
        return dice.choice([("ring",), ("sum",), ("corner", dice.choice(corners_of(body)))])
    edge = dice.choice(free)
    rest = [item for item in free if item != edge]
    return ("edge", edge, drawn_paper(body, dice, rest), drawn_paper(body, dice, rest))


def some_changes(body, value, dice):
    """Papers with one place changed."""
    leaves = [("ring",), ("sum",), ("corner", dice.choice(corners_of(body)))]
    if value[0] != "edge":
        return leaves
    word, edge, one, other = value
    found = [(word, dice.choice(edges_of(body)), one, other), (word, edge, other, one), one, other] + leaves
    found.extend((word, edge, item, other) for item in some_changes(body, one, dice))
    found.extend((word, edge, one, item) for item in some_changes(body, other, dice))
    return found


def depth(value):
    return 1 + max([depth(item) for item in value if isinstance(item, tuple)], default=0)


class Costs(unittest.TestCase):
    def test_costs(self):
        for body in some_bodies(4, 12, 2) + [K, ball()]:
            for seed in range(4):
                prices = drawn_prices(body, seed)
                told = [(price_of(body, tour, prices), tour) for tour in all_rounds(body)]
                for worth, tour in told:
                    self.assertEqual(cost(body, tour, prices), worth)
                self.assertEqual(cheapest(body, prices), min(told))
                most = max(worth for worth, _ in told)
                self.assertEqual(dearest(body, prices), [item for item in told if item[0] == most][0])

    def test_like_prices(self):
        for body in some_bodies(4, 12, 1):
            for price in (0, 1, MOST):
                told = (price * len(corners_of(body)), all_rounds(body)[0])
                self.assertEqual(cheapest(body, (price,) * len(edges_of(body))), told)
                self.assertEqual(dearest(body, (price,) * len(edges_of(body))), told)

    def test_no_prices(self):
        for body in (F, ball()):
            many = len(edges_of(body))
            wrong = [(0,) * (many - 1), (0,) * (many + 1), (-1,) + (0,) * (many - 1), (MOST + 1,) * many, [0] * many]
            wrong += [(True,) * many, ("1",) * many, (None,) * many]
            for number, value in enumerate(wrong + odd_values()):
                for call in (cheapest, dearest, paper):
                    with self.assertRaises(InvalidPrices, msg=number):
                        call(body, value)
                with self.assertRaises(InvalidPrices, msg=number):
                    cost(body, all_rounds(body)[0], value)
                with self.assertRaises(InvalidPrices, msg=number):
                    is_paper(body, value, -1, ("sum",))


class Papers(unittest.TestCase):
    def test_papers(self):
        for body in some_bodies(4, 8, 3) + [K]:
            for seed in range(6):
                prices = drawn_prices(body, seed)
                least, _ = cheapest(body, prices)
                told = paper(body, prices)
                self.assertLess(depth(told), 30)
                self.assertIs(is_paper(body, prices, least, told), True)
                self.assertIs(is_paper(body, prices, max(least - 1, 0), told), True)
                self.assertIs(is_paper(body, prices, least + 1, told), False)

    def test_against_the_words(self):
        met = {True: 0, False: 0}
        for body in (F, P):
            dice = random.Random(11)
            for seed in range(30):
                prices = drawn_prices(body, seed)
                least, _ = cheapest(body, prices)
                told = paper(body, prices)
                self.assertTrue(slow_is_paper(body, prices, least, told))
                values = some_changes(body, told, dice) + [drawn_paper(body, dice, edges_of(body)) for _ in range(20)]
                for value in values[:60]:
                    for number in (0, least // 2, least, least + 1):
                        fine = slow_is_paper(body, prices, number, value)
                        self.assertIs(is_paper(body, prices, number, value), fine)
                        met[fine] += 1
                        if fine:
                            self.assertLessEqual(number, least)
        self.assertGreater(min(met.values()), 300)

    def test_a_ring_with_all_corners_ends_no_paper(self):
        value = ("ring",)
        for edge in R:
            value = ("edge", edge, value, ("sum",))
        self.assertIs(is_paper(F, (0,) * 6, 0, value), False)
        lesser = ((0, 1), (0, 2), (1, 2))
        value = ("ring",)
        for edge in ((0, 1), (0, 2), (0, 3)):
            value = ("edge", edge, value, ("sum",))
        self.assertIs(is_paper(F, (0,) * 6, 0, value), True)
        value = ("corner", (0, 1, 2))
        for edge in lesser:
            value = ("edge", edge, value, ("sum",))
        self.assertIs(is_paper(F, (0,) * 6, 0, value), True)

    def test_two_barred_edges_end_a_corner(self):
        value = ("edge", (0, 1), ("sum",), ("edge", (0, 2), ("sum",), ("corner", (0, 1, 2))))
        self.assertIs(is_paper(F, (0,) * 6, 0, value), True)
        self.assertIs(is_paper(F, (0,) * 6, 1, value), False)
        self.assertIs(is_paper(F, (0,) * 6, 0, value[:3] + (("corner", (0, 1, 2)),)), False)
        self.assertIs(is_paper(F, (0,) * 6, 0, value[:3] + (value[3][:3] + (("sum",),),)), False)

    def test_bent_ends(self):
        def barred(end):
            return ("edge", (0, 1), ("sum",), ("edge", (0, 2), ("sum",), end))

        def taken(end):
            return ("edge", (0, 1), ("edge", (0, 2), ("edge", (0, 3), end, ("sum",)), ("sum",)), ("sum",))

        zero = (0,) * 6
        self.assertIs(is_paper(F, zero, 0, barred(("corner", (0, 1, 2)))), True)
        for end in ((False, True, 2), (0, True, 2), [0, 1, 2], (0, 1), (2, 1, 0), (0, 1, 2, 3), (0, 1, 4), None, 0):
            self.assertIs(is_paper(F, zero, 0, barred(("corner", end))), False)
        for end in (("corners", (0, 1, 2)), ("ring", (0, 1, 2)), ("corner", (0, 1, 2), ()), ["corner", (0, 1, 2)],
                    (None, (0, 1, 2)), ("corner",)):
            self.assertIs(is_paper(F, zero, 0, barred(end)), False)
        self.assertIs(is_paper(F, zero, 0, taken(("ring",))), True)
        for end in (("ring", ()), ("ring", (), ()), ("ring", (), (), ()), ["ring"], "ring", ("rings",), ("Ring",)):
            self.assertIs(is_paper(F, zero, 0, taken(end)), False)
        for end in (("sum", ()), ("sum", (), ()), ("sum", (), (), ()), ["sum"], "sum", ("sums",), (("sum",),), ()):
            self.assertIs(is_paper(F, zero, 0, end), False)
            self.assertIs(is_paper(F, zero, 0, ("edge", (0, 1), end, ("sum",))), False)
            self.assertIs(is_paper(F, zero, 0, ("edge", (0, 1), ("sum",), end)), False)
        for edge in ((False, 1), (0, True), [0, 1], (1, 0), (0, 1, 2), (0, 4), 0, None):
            self.assertIs(is_paper(F, zero, 0, ("edge", edge, ("sum",), ("sum",))), False)
        self.assertIs(is_paper(F, zero, 0, ("edges", (0, 1), ("sum",), ("sum",))), False)

    def test_half_numbers(self):
        # The least that two edges at each corner cost may be odd: 2 * 4 - 1 is enough for 4.
        prices = (0, 1, 2, 1, 1, 4)
        for number in range(0, 7):
            self.assertIs(is_paper(F, prices, number, ("sum",)), slow_is_paper(F, prices, number, ("sum",)))
        self.assertIs(is_paper(F, (1, 1, 1, 1, 1, 0), 3, ("sum",)), True)
        self.assertIs(is_paper(F, (2, 2, 2, 2, 2, 1), 8, ("sum",)), False)

    def test_great_numbers(self):
        for body in (F, ball()):
            many = len(edges_of(body))
            most = MOST * len(corners_of(body))
            self.assertIs(is_paper(body, (MOST,) * many, most, ("sum",)), True)
            self.assertIs(is_paper(body, (MOST,) * many, most + 1, ("sum",)), False)
            self.assertIs(is_paper(body, (MOST,) * many, 10 ** 22, ("sum",)), False)
            self.assertIs(is_paper(body, (0,) * many, 0, ("sum",)), True)
            for number in (-1, 10 ** 22 + 1, True, None, "0", (0,), 10 ** 119):
                with self.assertRaises(InvalidNumber):
                    is_paper(body, (0,) * many, number, None)

    def test_bent_papers(self):
        for body in (F, P, K):
            for seed in range(4):
                prices = drawn_prices(body, seed)
                told = paper(body, prices)
                for number, value in enumerate(odd_values() + odd_integers() + bent(told)):
                    self.assertIs(is_paper(body, prices, cheapest(body, prices)[0], value), False, number)
            zero = (0,) * len(edges_of(body))
            for told in (("edge", (0, 1), ("sum",), ("sum",)), ("sum",)):
                self.assertIs(is_paper(body, zero, 0, told), True)
                for number, value in enumerate(odd_values() + odd_integers() + bent(told)):
                    self.assertIs(is_paper(body, zero, 0, value), False, number)

    def test_deep_papers(self):
        for body in (K, ball(), drum(10), drawn(12, 7)):
            zero = (0,) * len(edges_of(body))
            lost = [("corner", corners_of(body)[0]), ("corner", corners_of(body)[-1])]
            for end in [("sum",), ("ring",), (), "x"] + lost:
                for places in (edges_of(body), edges_of(body)[::-1], edges_of(body)[:1] * 30):
                    both = one = other = end
                    for edge in places[:29]:
                        both = ("edge", edge, both, both)
                        one = ("edge", edge, one, ("sum",))
                        other = ("edge", edge, ("sum",), other)
                    start = time.time()
                    for value in (both, one, other):
                        self.assertIs(is_paper(body, zero, 0, value), False)
                    self.assertLess(time.time() - start, 5)
            for value in (deep(tuple, 90), deep(list, 90), ("edge", (0, 1), deep(tuple, 90), deep(tuple, 90)),
                          ("corner", deep(tuple, 90)), ("edge", deep(tuple, 90), ("sum",), ("sum",)),
                          (deep(tuple, 90),), (deep(tuple, 90), (0, 1, 2))):
                self.assertIs(is_paper(body, zero, 0, value), False)

    def test_too_many_faces_come_last(self):
        for body in (drawn(9, 1), ball()):
            with self.assertRaises(TooMany) as caught:
                paper(body, (1,) * len(edges_of(body)))
            self.assertEqual(caught.exception.limit, 8)
            with self.assertRaises(InvalidPrices):
                paper(body, (1,) * 6)
