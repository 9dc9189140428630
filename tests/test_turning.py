"""Faces turned in pairings, and the lots of pairings."""

import unittest

from huesandrounds.errors import InvalidFace, NoTurn
from huesandrounds.lines import is_pairing
from huesandrounds.turning import face_turned, lot_of, pairing_lots, turnable, turns_between
from tests.brute import all_pairings, classes
from tests.support import F, K, P, ball, drum, pair, some_bodies


def slow_turned(body, row, face):
    """The pairing in which a face is turned, or None."""
    around = [pair(face, other) for other in body[face]]
    kept = "".join("x" if edge in row else "-" for edge in around)
    if len(around) % 2 == 1 or kept not in ("x-" * (len(around) // 2), "-x" * (len(around) // 2)):
        return None
    return tuple(sorted(set(row) ^ set(around)))


def slow_next(body, row):
    told = [slow_turned(body, row, face) for face in range(len(body))]
    return [other for other in told if other is not None]


class Turning(unittest.TestCase):
    def test_faces(self):
        for body in some_bodies(4, 8, 3) + [K]:
            for row in all_pairings(body):
                told = [slow_turned(body, row, face) for face in range(len(body))]
                self.assertEqual(turnable(body, row), [face for face, other in enumerate(told) if other is not None])
                for face, other in enumerate(told):
                    if other is None:
                        with self.assertRaises(NoTurn):
                            face_turned(body, row, face)
                    else:
                        self.assertEqual(face_turned(body, row, face), other)
                        self.assertTrue(is_pairing(body, other))
                        self.assertEqual(face_turned(body, other, face), row)

    def test_no_face_comes_ahead_of_no_turn(self):
        row = all_pairings(F)[0]
        for face in (-1, 4, True, None, "0", (0,)):
            with self.assertRaises(InvalidFace):
                face_turned(F, row, face)
        for face in range(4):
            with self.assertRaises(NoTurn):
                face_turned(F, row, face)

    def test_lots(self):
        for body in some_bodies(4, 9, 2) + [K]:
            slow = classes(all_pairings(body), lambda row: slow_next(body, row))
            self.assertEqual(pairing_lots(body), len(slow))
            for lot in slow:
                for row in sorted(lot)[::3]:
                    self.assertEqual(lot_of(body, row), sorted(lot))

    def test_turns_between(self):
        for body in some_bodies(4, 8, 2) + [K, P]:
            slow = all_pairings(body)
            for row in slow[::2]:
                far = {row: 0}
                ahead = [row]
                for here in ahead:
                    for other in slow_next(body, here):
                        if other not in far:
                            far[other] = far[here] + 1
                            ahead.append(other)
                for aim in slow:
                    told = turns_between(body, row, aim)
                    if aim not in far:
                        self.assertIsNone(told)
                        continue
                    self.assertIs(type(told), tuple)
                    self.assertEqual(len(told), far[aim])
                    here = row
                    for face in told:
                        here = face_turned(body, here, face)
                    self.assertEqual(here, aim)

    def test_even_faces_make_one_lot(self):
        even = [body for body in some_bodies(4, 12, 6) if all(len(ring) % 2 == 0 for ring in body)]
        for body in even + [K, drum(6), drum(8), drum(10)]:
            self.assertEqual(pairing_lots(body), 1)
        self.assertEqual([pairing_lots(body) for body in (F, P, ball())], [3, 1, 36])
