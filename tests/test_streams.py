"""Least rims, greatest streams, greatest tears and even lots of the same price."""

import random
import unittest

from huesandrounds.errors import InvalidFace, InvalidPrices, TooMany
from huesandrounds.evenlots import even_lots, rim
from huesandrounds.streams import greatest_tear, is_stream, least_rim, same_price, stream
from huesandrounds.tears import is_tear
from huesandrounds.wires import flows, places, sizes
from tests.brute import edges_of
from tests.support import F, K, P, ball, bent, drawn, drum, odd_integers, odd_values, some_bodies
from tests.test_evenlots import lots_in
from tests.test_prices import drawn_prices, price_of
from tests.test_tears import slow_tears


def slow_least_rim(body, prices, face, last):
    lots = [lot for lot in lots_in(range(len(body))) if face in lot and last not in lot]
    return min((price_of(body, rim(body, lot), prices), lot) for lot in lots)


def slow_is_stream(body, prices, face, last, row):
    if any(abs(item) > price for item, price in zip(row, prices)):
        return False
    out = [0] * len(body)
    for (one, other), item in zip(edges_of(body), row):
        out[one] += item
        out[other] -= item
    return out[face] >= 0 and not any(many for at, many in enumerate(out) if at not in (face, last))


def worth(body, row, face):
    return sum(item if edge[0] == face else -item for edge, item in zip(edges_of(body), row) if face in edge)


def cases(bodies, seeds=3):
    for number, body in enumerate(bodies):
        for seed in range(seeds):
            dice = random.Random(100 * number + seed)
            face, last = dice.sample(range(len(body)), 2)
            yield body, drawn_prices(body, seed), face, last


class Rims(unittest.TestCase):
    def test_against_all_lots(self):
        for body, prices, face, last in cases(some_bodies(4, 9, 2) + [K]):
            self.assertEqual(least_rim(body, prices, face, last), slow_least_rim(body, prices, face, last))
        for body in (F, P, K):
            for prices in ((1,) * 30, (0,) * 30, (10 ** 20,) * 30, (0, 1, 1) * 10):
                for face in range(len(body)):
                    for last in range(len(body)):
                        if face != last:
                            args = (body, prices[:len(edges_of(body))], face, last)
                            self.assertEqual(least_rim(*args), slow_least_rim(*args))

    def test_the_greatest_stream_is_as_great(self):
        for body, prices, face, last in cases(some_bodies(4, 12, 3) + [K, ball()]):
            row = stream(body, prices, face, last)
            self.assertIs(is_stream(body, prices, face, last, row), True)
            self.assertTrue(slow_is_stream(body, prices, face, last, row))
            price, lot = least_rim(body, prices, face, last)
            self.assertEqual(worth(body, row, face), price)
            self.assertEqual(price_of(body, rim(body, lot), prices), price)
            self.assertTrue(face in lot and last not in lot)
            self.assertEqual(least_rim(body, prices, last, face)[0], price)

    def test_great_prices(self):
        for body in (F, K, ball(), drum(10)):
            for price in (0, 1, 10 ** 20):
                prices = (price,) * len(edges_of(body))
                row = stream(body, prices, 0, len(body) - 1)
                self.assertEqual(worth(body, row, 0), least_rim(body, prices, 0, len(body) - 1)[0])
                self.assertEqual(least_rim(body, prices, 0, len(body) - 1)[1], (0,))

    def test_flows_are_streams(self):
        for body in some_bodies(4, 12, 1) + [K, ball()]:
            for gap in edges_of(body)[::5]:
                row = tuple(0 if edge == gap else flow for edge, flow in zip(edges_of(body), flows(body, gap)))
                prices = tuple(abs(item) for item in row)
                self.assertIs(is_stream(body, prices, gap[0], gap[1], row), True)
                height = sizes(body, gap)[1]
                self.assertEqual(worth(body, row, gap[0]), height)
                self.assertEqual(least_rim(body, prices, *gap)[0], height)
                self.assertEqual(places(body, gap)[gap[0]], 0)


class Streams(unittest.TestCase):
    def test_near_streams(self):
        for body, prices, face, last in cases(some_bodies(4, 7, 1) + [K, ball()]):
            row = stream(body, prices, face, last)
            self.assertIs(is_stream(body, prices, last, face, tuple(-item for item in row)), True)
            back = tuple(-item for item in row)
            self.assertIs(is_stream(body, prices, face, last, back), worth(body, row, face) == 0)
            for at in range(len(row)):
                for more in (1, -1, 10 ** 119):
                    near = row[:at] + (row[at] + more,) + row[at + 1:]
                    self.assertIs(is_stream(body, prices, face, last, near),
                                  slow_is_stream(body, prices, face, last, near))

    def test_all_small_rows(self):
        prices = (1, 2, 1, 0, 1, 1)
        rows = [()]
        for _ in range(6):
            rows = [row + (item,) for row in rows for item in (-1, 0, 1, 2)]
        for row in rows[::3]:
            self.assertIs(is_stream(F, prices, 1, 3, row), slow_is_stream(F, prices, 1, 3, row))

    def test_what_goes_around(self):
        # What goes round a corner neither goes out of a face nor comes into it.
        self.assertIs(is_stream(F, (3,) * 6, 0, 3, (3, -3, 0, 3, 0, 0)), True)
        self.assertIs(is_stream(F, (2,) * 6, 0, 3, (3, -3, 0, 3, 0, 0)), False)
        self.assertIs(is_stream(F, (3,) * 6, 0, 3, (0,) * 6), True)
        self.assertIs(is_stream(F, (3,) * 6, 0, 3, (0, 0, -1, 0, 0, 0)), False)

    def test_other_values(self):
        for body, prices, face, last in cases([F, P, K, ball()], 1):
            row = stream(body, (1,) * len(prices), face, last)
            for number, value in enumerate(odd_values() + odd_integers() + bent(row)):
                self.assertIs(is_stream(body, (1,) * len(prices), face, last, value), False, number)


class Tears(unittest.TestCase):
    def test_against_all_tears(self):
        for number, body in enumerate([F, P, K] + some_bodies(5, 8, 1)):
            tears = slow_tears(body)
            for seed in range(4):
                prices = drawn_prices(body, 10 * number + seed)
                price, lot = greatest_tear(body, prices)
                self.assertEqual(price, max(price_of(body, some, prices) for some in tears))
                self.assertIn(lot, tears)
                self.assertEqual(price_of(body, lot, prices), price)

    def test_great_bodies(self):
        for body in some_bodies(9, 12, 2) + [ball()]:
            for seed in range(3):
                prices = drawn_prices(body, seed)
                price, lot = greatest_tear(body, prices)
                self.assertIs(is_tear(body, lot), True)
                self.assertEqual(price_of(body, lot, prices), price)
                # Half of all prices at least: otherwise some corner would make the tear dearer.
                self.assertGreaterEqual(2 * price, sum(prices))
        # Each of the twelve faces of five sides leaves an edge out, and two of them can leave out the same one.
        self.assertEqual(greatest_tear(ball(), (1,) * 30)[0], 24)
        self.assertEqual(greatest_tear(drum(10), (1,) * 30)[0], 30)
        self.assertEqual(greatest_tear(drum(9), (1,) * 27)[0], 25)
        self.assertEqual(greatest_tear(ball(), (10 ** 20,) * 30)[0], 24 * 10 ** 20)
        self.assertEqual(greatest_tear(ball(), (0,) * 30)[0], 0)


class Prices(unittest.TestCase):
    def test_same_price(self):
        for number, body in enumerate(some_bodies(4, 7, 2) + [K]):
            lots = even_lots(body)
            for seed in range(4):
                dice = random.Random(10 * number + seed)
                prices = tuple(dice.choice([seed, 2 ** dice.randint(0, 60), 10 ** 20]) for _ in edges_of(body))
                worths = [price_of(body, lot, prices) for lot in lots]
                found = [(one, other) for at, one in enumerate(lots) for place, other in enumerate(lots)
                         if at < place and worths[at] == worths[place]]
                self.assertEqual(same_price(body, prices), min(found, default=None))

    def test_all_unlike(self):
        for body in some_bodies(4, 9, 1) + [K]:
            many = len(edges_of(body))
            self.assertIsNone(same_price(body, tuple(2 ** at for at in range(many))))
            self.assertIsNone(same_price(body, tuple(2 ** at for at in range(many))[::-1]))
            lots = even_lots(body)
            self.assertEqual(same_price(body, (0,) * many), (lots[0], lots[1]))

    def test_limit(self):
        for body in (drawn(10, 1), drum(8), ball()):
            many = len(edges_of(body))
            with self.assertRaises(TooMany) as told:
                same_price(body, (1,) * many)
            self.assertEqual(told.exception.limit, 9)
            with self.assertRaises(InvalidPrices):
                same_price(body, (1,) * (many - 1) + (-1,))


class Wrong(unittest.TestCase):
    def test_faces(self):
        prices = (1,) * 6
        for call, more in ((least_rim, ()), (stream, ()), (is_stream, ((0,) * 6,))):
            for face in range(4):
                with self.assertRaises(InvalidFace):
                    call(F, prices, face, face, *more)
            for value in (4, -1, True, None, "0", (0,), 10 ** 119):
                with self.assertRaises(InvalidFace):
                    call(F, prices, value, 0, *more)
                with self.assertRaises(InvalidFace):
                    call(F, prices, 0, value, *more)
                with self.assertRaises(InvalidFace):
                    call(F, prices, value, value, *more)
                with self.assertRaises(InvalidPrices):
                    call(F, prices[1:], value, value, *more)
