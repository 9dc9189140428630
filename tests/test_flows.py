"""Flows and the face hues that have them."""

import unittest
from itertools import product

from huesandrounds.errors import InvalidFaceHues, InvalidFlow, InvalidHue, InvalidNumber, TooMany
from huesandrounds.facehues import count_face_hues
from huesandrounds.flows import count_flows, flow_of, hues_by_flow, is_flow
from tests.brute import all_hues_by, edges_of, turned_of
from tests.support import F, P, ball, bent, drawn, drum, odd_integers, odd_values, pair, some_bodies


def slow_is_flow(body, many, flow):
    """The definition, corner by corner."""
    told = dict(zip(edges_of(body), flow))
    for a, b, c in turned_of(body).values():
        total = 0
        for one, other in ((a, b), (b, c), (c, a)):
            total += told[pair(one, other)] if one < other else -told[pair(one, other)]
        if total % many:
            return False
    return True


class Flows(unittest.TestCase):
    def test_all_rows(self):
        for body, most in ((F, 6), (P, 4)):
            for many in range(1, most):
                rows = list(product(range(1, many), repeat=len(edges_of(body))))
                slow = [row for row in rows if slow_is_flow(body, many, row)]
                self.assertEqual([row for row in rows if is_flow(body, many, row)], slow)
                self.assertEqual(count_flows(body, many), len(slow))

    def test_flows_of_face_hues(self):
        for body in some_bodies(4, 7, 2):
            for many in (4, 5):
                flows = {}
                for row in all_hues_by(body, many):
                    flow = flow_of(body, many, row)
                    told = [(row[high] - row[low]) % many for low, high in edges_of(body)]
                    self.assertEqual(flow, tuple(told))
                    self.assertTrue(slow_is_flow(body, many, flow))
                    self.assertIs(is_flow(body, many, flow), True)
                    self.assertEqual(hues_by_flow(body, many, flow, row[0]), row)
                    flows.setdefault(flow, []).append(row)
                self.assertEqual(count_flows(body, many), len(flows))
                self.assertTrue(all(len(rows) == many for rows in flows.values()))

    def test_numbers(self):
        for body in some_bodies(4, 10, 2):
            for many in (1, 2, 3, 4, 7, 10 ** 12):
                self.assertEqual(count_flows(body, many) * many, count_face_hues(body, many))
        self.assertEqual(count_flows(F, 10 ** 12), (10 ** 12 - 1) * (10 ** 12 - 2) * (10 ** 12 - 3))

    def test_the_number_one(self):
        for body in (F, drum(10)):
            self.assertIs(is_flow(body, 1, (0,) * len(edges_of(body))), False)
            self.assertIs(is_flow(body, 1, (1,) * len(edges_of(body))), False)
            with self.assertRaises(InvalidFaceHues):
                flow_of(body, 1, (0,) * len(body))
            with self.assertRaises(InvalidFlow):
                hues_by_flow(body, 1, (0,) * len(edges_of(body)), 0)
        self.assertEqual(count_flows(F, 1), 0)

    def test_great_numbers_and_bodies(self):
        many = 10 ** 12
        for body in some_bodies(9, 12, 2) + [ball()]:
            row = tuple(many - 1 - face * 10 ** 9 for face in range(len(body)))
            flow = flow_of(body, many, row)
            self.assertTrue(all(0 < step < many for step in flow))
            self.assertIs(is_flow(body, many, flow), True)
            for hue in (0, 1, many - 1):
                other = hues_by_flow(body, many, flow, hue)
                self.assertEqual(other[0], hue)
                self.assertEqual(flow_of(body, many, other), flow)
            for number, value in enumerate(odd_values() + odd_integers() + bent(flow)):
                if type(value) is tuple and len(value) == len(flow) and set(map(type, value)) == {int}:
                    continue
                self.assertIs(is_flow(body, many, value), False, number)
            for at in range(len(flow)):
                for step in (0, many, -1, flow[at] - many, flow[at] % (many - 1) + 1):
                    self.assertFalse(is_flow(body, many, flow[:at] + (step,) + flow[at + 1:]))

    def test_numbers_and_hues_out_of_range(self):
        flow = flow_of(F, 5, (0, 1, 2, 4))
        for many in (0, -1, 10 ** 12 + 1, True, None, "5"):
            for call, args in ((is_flow, (flow,)), (flow_of, ((0, 1, 2, 3),)), (hues_by_flow, (flow, 0)),
                               (count_flows, ())):
                with self.assertRaises(InvalidNumber):
                    call(F, many, *args)
        for hue in (-1, 5, True, None):
            with self.assertRaises(InvalidHue):
                hues_by_flow(F, 5, flow, hue)
        for row in ((0, 1, 2, 5), (0, 1, 2, -1), (0, 1, 2, 2), (0, 1, 2), [0, 1, 2, 3], (0, True, 2, 3)):
            with self.assertRaises(InvalidFaceHues):
                flow_of(F, 5, row)
        with self.assertRaises(InvalidFlow):
            hues_by_flow(F, 6, flow_of(F, 5, (4, 2, 1, 0)), 9)

    def test_ten_faces_are_the_most(self):
        count_flows(drum(8), 4)
        for body in (drum(9), drawn(12, 2), ball()):
            with self.assertRaises(TooMany) as told:
                count_flows(body, 4)
            self.assertEqual(told.exception.limit, 10)
