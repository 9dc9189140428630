"""Wrong arguments of all functions, one by one and several at once; and what holds for all calls."""

import copy
import unittest

from huesandrounds.errors import TooMany
from tests.calls import CALLS, ERRORS, cases, wrong_values
from tests.support import F, drawn, drum, odd_values


def replaced(args, at, value):
    return args[:at] + (value,) + args[at + 1:]


class Arguments(unittest.TestCase):
    def error_of(self, call, args):
        """The error that a call ends with; no message shows arguments, as some are too great for that."""
        try:
            call.run(*args)
        except Exception as error:
            return error
        return None

    def check(self, call, args, kind, told):
        if kind.startswith("?"):
            self.assertIs(call.run(*args), False, told)
        else:
            self.assertIs(type(self.error_of(call, args)), ERRORS[kind], told)

    def test_one_wrong_argument(self):
        for call, args in cases():
            for at, kind in enumerate(call.kinds):
                for number, value in enumerate(wrong_values(call, args, at)):
                    self.check(call, replaced(args, at, value), kind, (call.name, at, number))

    def test_the_leftmost_wrong_argument_counts(self):
        for call, args in cases():
            wrong = [wrong_values(call, args, at) for at in range(len(args))]
            for at, kind in enumerate(call.kinds):
                if kind.startswith("?"):
                    continue
                for later in range(at + 1, len(args)):
                    for number in range(max(len(wrong[at]), len(wrong[later]))):
                        one = wrong[at][number % len(wrong[at])]
                        other = wrong[later][number % len(wrong[later])]
                        both = replaced(replaced(args, at, one), later, other)
                        self.check(call, both, kind, (call.name, at, later, number))

    def test_too_many_faces_come_last(self):
        for call in CALLS:
            if call.limit is None:
                continue
            for body in (drawn(call.limit + 1, 1), drum(10)):
                args = call.make(body)
                error = self.error_of(call, args)
                self.assertIs(type(error), TooMany, call.name)
                self.assertEqual(error.limit, call.limit)
                for at, kind in enumerate(call.kinds):
                    for number, value in enumerate(wrong_values(call, args, at)):
                        self.check(call, replaced(args, at, value), kind, (call.name, at, number))

    def test_as_many_faces_as_the_limit(self):
        for call in CALLS:
            for body in (drawn(call.limit or 12, 2), drum((call.limit or 12) - 2)):
                args = call.make(body)
                if call.name not in ("cut", "carried", "put_together") and args is not None:
                    call.run(*args)

    def test_two_calls_return_equal_and_separate_lists(self):
        for call, args in cases():
            one, other = call.run(*args), call.run(*args)
            self.assertEqual(one, other, call.name)
            if isinstance(one, list):
                self.assertIsNot(one, other, call.name)
                one.append("more")
                self.assertEqual(call.run(*args), other, call.name)

    def test_arguments_stay_as_they_were(self):
        for call, args in cases():
            kept = copy.deepcopy(args)
            call.run(*args)
            self.assertEqual(args, kept, call.name)

    def test_wrong_arguments_stay_as_they_were(self):
        odd = [[[0, 1], [2, 3]], ([0, 1], [0]), [F], [0] * 6, [1, [2, [3]]], [list(ring) for ring in F]]
        for call, args in cases():
            for at in range(len(args)):
                for value in odd:
                    kept = copy.deepcopy(value)
                    self.error_of(call, replaced(args, at, value))
                    self.assertEqual(value, kept, call.name)

    def test_odd_values_are_many(self):
        self.assertGreater(len(odd_values()), 25)
