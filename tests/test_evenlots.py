"""Even lots of edges, rims and rings."""

import random
import unittest
from itertools import combinations

from huesandrounds.edgehues import count_edge_hues
from huesandrounds.errors import InvalidEven, InvalidFaces, InvalidNumber, TooMany
from huesandrounds.evenlots import (count_covers, even_at, even_index, even_lots, even_sizes, faces_of, is_even, rim,
                                    rings_of)
from tests.brute import all_rings, classes, corners_of, edges_at, edges_of, tied_to
from tests.support import F, K, P, R, ball, bent, deep, drawn, drum, odd_integers, odd_values, some_bodies


def lots_in(items):
    return [some for many in range(len(items) + 1) for some in combinations(items, many)]


def slow_is_even(body, lot):
    return all(sum(edge in lot for edge in edges_at(corner)) % 2 == 0 for corner in corners_of(body))


def slow_rim(body, faces):
    return tuple(edge for edge in edges_of(body) if len(set(edge) & set(faces)) == 1)


def slow_even_lots(body):
    return sorted({slow_rim(body, faces) for faces in lots_in(range(len(body)))})


def drawn_lot(items, seed):
    dice = random.Random(seed)
    return tuple(item for item in items if dice.random() < 0.5)


class Even(unittest.TestCase):
    def test_all_lots_of_edges(self):
        for body in (F, P, K, drawn(5, 1), drawn(6, 2)):
            for lot in lots_in(edges_of(body))[::1 if len(body) < 6 else 7]:
                self.assertIs(is_even(body, lot), slow_is_even(body, lot))

    def test_rims_are_just_the_even_lots(self):
        for body in (F, P, K, drawn(6, 1)):
            told = [lot for lot in lots_in(edges_of(body)) if slow_is_even(body, lot)]
            self.assertEqual(sorted(told), slow_even_lots(body))
            self.assertEqual(even_lots(body), slow_even_lots(body))

    def test_rims(self):
        for body in some_bodies(4, 6, 2) + [K]:
            for faces in lots_in(range(len(body))):
                self.assertEqual(rim(body, faces), slow_rim(body, faces))
                self.assertIs(is_even(body, rim(body, faces)), True)
        for body in some_bodies(7, 12, 2) + [ball()]:
            for seed in range(5):
                faces = drawn_lot(range(len(body)), seed)
                others = tuple(face for face in range(len(body)) if face not in faces)
                self.assertEqual(rim(body, faces), slow_rim(body, faces))
                self.assertEqual(rim(body, others), rim(body, faces))
            self.assertEqual(rim(body, ()), ())
            self.assertEqual(rim(body, tuple(range(len(body)))), ())

    def test_faces_of_rims(self):
        for body in some_bodies(4, 12, 2) + [K, ball()]:
            for seed in range(8):
                faces = drawn_lot(range(1, len(body)), seed)
                self.assertEqual(faces_of(body, slow_rim(body, faces)), faces)
            self.assertEqual(faces_of(body, ()), ())
            self.assertEqual(faces_of(body, slow_rim(body, (0,))), tuple(range(1, len(body))))

    def test_rings(self):
        for body in some_bodies(4, 12, 2) + [K, ball()]:
            for seed in range(6):
                lot = slow_rim(body, drawn_lot(range(len(body)), seed))
                told = [tuple(sorted(ring)) for ring in classes(lot, lambda edge: tied_to(body, edge, lot))]
                self.assertEqual(rings_of(body, lot), sorted(told))
        for body in (F, P, K):
            self.assertEqual(rings_of(body, ()), [])
            rings = all_rings(body)
            for lot in even_lots(body):
                self.assertEqual(sorted(edge for ring in rings_of(body, lot) for edge in ring), list(lot))
                self.assertTrue(all(ring in rings for ring in rings_of(body, lot)))
        self.assertEqual(rings_of(F, R), [R])

    def test_sums_are_even(self):
        for body in some_bodies(4, 9, 1):
            lots = even_lots(body)
            for one, other in zip(lots[1::5], lots[::3]):
                self.assertIs(is_even(body, tuple(sorted(set(one) ^ set(other)))), True)


class Numbers(unittest.TestCase):
    def test_indexes(self):
        for body in some_bodies(4, 9, 1) + [K]:
            lots = slow_even_lots(body)
            self.assertEqual(len(lots), 2 ** (len(body) - 1))
            self.assertEqual(even_lots(body), lots)
            for index in sorted({0, 1, 7, len(lots) // 2, len(lots) - 2, len(lots) - 1}):
                self.assertEqual(even_at(body, index), lots[index])
                self.assertEqual(even_index(body, lots[index]), index)
            for index in (-1, len(lots), len(lots) + 1, True, None, "0", (0,), 10 ** 119, -10 ** 119):
                with self.assertRaises(InvalidNumber):
                    even_at(body, index)

    def test_all_indexes(self):
        for body in (F, P, K, drum(5)):
            self.assertEqual([even_at(body, index) for index in range(2 ** (len(body) - 1))], even_lots(body))
            self.assertEqual([even_index(body, lot) for lot in even_lots(body)], list(range(2 ** (len(body) - 1))))

    def test_sizes(self):
        for body in some_bodies(4, 9, 2) + [K]:
            sizes = [len(lot) for lot in slow_even_lots(body)]
            self.assertEqual(even_sizes(body), tuple(sizes.count(many) for many in range(len(edges_of(body)) + 1)))
        for body in (ball(), drum(10), drawn(12, 4), drawn(11, 2)):
            sizes = even_sizes(body)
            self.assertEqual((len(sizes), sum(sizes)), (len(edges_of(body)) + 1, 2 ** (len(body) - 1)))
            self.assertEqual(sizes[:3], (1, 0, 0))
            sizes = [len(slow_rim(body, faces)) for faces in lots_in(range(1, len(body)))]
            self.assertEqual(even_sizes(body), tuple(sizes.count(many) for many in range(len(edges_of(body)) + 1)))

    def test_covers(self):
        for body in (F, P, K, drawn(5, 2), drawn(6, 3)):
            lots = [set(lot) for lot in slow_even_lots(body)]
            told = sum(len(one | other) == len(edges_of(body)) for one in lots for other in lots)
            self.assertEqual(count_covers(body), told)
        for body in some_bodies(7, 12, 1):
            self.assertEqual(count_covers(body), count_edge_hues(body))

    def test_limits(self):
        for body in (drawn(10, 1), drum(8), ball()):
            for call, args in ((even_lots, ()), (even_at, (0,)), (even_index, ((),))):
                with self.assertRaises(TooMany) as told:
                    call(body, *args)
                self.assertEqual(told.exception.limit, 9)
            with self.assertRaises(InvalidNumber):
                even_at(body, 2 ** (len(body) - 1))
            with self.assertRaises(InvalidEven):
                even_index(body, ((0, body[0][0]),))
        for body in (drawn(9, 1), drum(7)):
            self.assertEqual(even_at(body, 0), ())
            self.assertEqual(even_at(body, 255), even_lots(body)[-1])


class Wrong(unittest.TestCase):
    def test_no_even_lots(self):
        for body in (F, P, K, ball()):
            lot = slow_rim(body, (0,))
            wrong = [value for value in odd_values() + odd_integers() + bent(lot) if type(value) is not tuple or value]
            for number, value in enumerate(wrong + [tuple(edges_of(body)), lot[::-1], lot + lot, list(lot)]):
                self.assertIs(is_even(body, value), False, number)
                for call in (faces_of, rings_of, even_index):
                    with self.assertRaises(InvalidEven, msg=number):
                        call(body, value)

    def test_no_lots_of_faces(self):
        wrong = [(1, 0), (0, 0), (0, 4), (-1, 0), (True,), (0, True), [0], 0, ((0,),), (0, 1, 2, 3, 4), deep(tuple, 90)]
        for number, value in enumerate(wrong + [value for value in odd_values() if value != ()]):
            with self.assertRaises(InvalidFaces, msg=number):
                rim(F, value)
