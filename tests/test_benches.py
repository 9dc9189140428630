"""Benches: steps, scripts, taking back and doing anew."""

import inspect
import random
import unittest

from huesandrounds.benches import Bench
from huesandrounds.errors import (InvalidEdge, InvalidScript, InvalidStand, InvalidStep, NoSeam, NothingToRedo,
                                  NothingToUndo, RoundError, TooMany)
from huesandrounds.facehues import to_faces
from huesandrounds.rounds import lands
from huesandrounds.signs import signs_of
from huesandrounds.stands import course, done
from huesandrounds.values import Body, Hues
from tests.brute import edges_of
from tests.calls import FALSE_FRIENDS, SCRIPT
from tests.support import F, H, K, P, R, T, X, ball, deep, drawn, drum, odd_integers, odd_values, pair
from tests.test_stands import drawn_stand, fine_steps, stands

# Six steps that do not lead to another stand, among others.
SAME = ("rename", (0, 1, 2))
TURN = ("rename", (1, 2, 0))


def told(bench):
    """All that a bench tells of itself."""
    return (bench.stand, bench.body, bench.hues, bench.tour, bench.tree, bench.signs, bench.faces, bench.lands,
            bench.pairing, bench.log, len(bench), bool(bench), list(bench.lines()))


def all_told(bench):
    """All that a bench tells of itself, also of what it can take back and do again."""
    found = [told(bench)]
    back = 0
    while True:
        try:
            bench.undo()
        except NothingToUndo:
            break
        back += 1
        found.append(told(bench))
    more = 0
    while True:
        try:
            bench.redo()
        except NothingToRedo:
            break
        more += 1
        found.append(told(bench))
    for _ in range(more - back):
        bench.undo()
    return found


class Led(unittest.TestCase):
    def test_steps(self):
        for seed, stand in enumerate(stands(4, 10)):
            dice = random.Random(seed)
            bench = Bench(stand)
            log = []
            for _ in range(15):
                step = dice.choice(fine_steps(stand))
                fresh = done(stand, step)
                self.assertIs(bench.do(step), fresh != stand)
                stand = fresh
                log.append(step)
                self.assertEqual(bench.stand, stand)
                self.assertEqual(bench.log, tuple(log))
                self.assertEqual(len(bench), len(log))
        bench = Bench(X)
        self.assertEqual([bench.do(step) for step in (SAME, ("paint",), TURN)], [False, False, True])

    def test_scripts(self):
        for seed, stand in enumerate(stands(4, 10)):
            dice = random.Random(seed)
            script, ahead = [], stand
            for _ in range(seed % 13):
                script.append(dice.choice(fine_steps(ahead)))
                ahead = done(ahead, script[-1])
            bench = other = Bench(stand)
            bench += tuple(script)
            self.assertIs(bench, other)
            self.assertEqual((bench.stand, bench.log, len(bench)), (ahead, tuple(script), 1))
            bench += ()
            self.assertEqual((bench.stand, bench.log, len(bench)), (ahead, tuple(script), 2))
            bench.undo()
            bench.undo()
            self.assertEqual((other.stand, other.log, len(other)), (stand, (), 0))
            bench.redo()
            self.assertEqual(bench.stand, ahead)

    def test_what_it_tells(self):
        for stand in stands():
            bench = Bench(stand)
            body, hues, tour, tree = stand
            self.assertEqual((bench.stand, bench.body, bench.hues, bench.tour, bench.tree), (stand,) + stand)
            self.assertEqual(bench.signs, signs_of(body, hues))
            self.assertEqual(bench.faces, to_faces(body, hues, 0))
            self.assertEqual(bench.lands, lands(body, tour))
            left = tuple(edge for edge in edges_of(body) if edge not in tour)
            self.assertEqual(bench.pairing, left)
            row = dict(zip(edges_of(body), hues))
            for edge in edges_of(body):
                self.assertEqual(bench[edge], (row[edge], edge in tour, edge in tree))
                self.assertIs(edge in bench, edge in tour and edge in tree)
            one_hue = any(left == tuple(edge for edge in edges_of(body) if row[edge] == hue) for hue in range(3))
            self.assertIs(bool(bench), one_hue)
            lines = []
            for face, ring in enumerate(body):
                around = [pair(face, other) for other in ring]
                lines.append(f"{face}: " + "".join(str(row[edge]) + "*" * (edge in tour) for edge in around))
            self.assertEqual(list(bench.lines()), lines)
            bench.do(("paint",))
            self.assertIs(bool(bench), True)
        self.assertEqual({bool(Bench(stand)) for stand in stands(6, 9, 4)}, {True, False})

    def test_lines_show_what_there_is_at_first(self):
        bench = Bench(X)
        self.assertTrue(inspect.isgenerator(bench.lines()))
        rows = bench.lines()
        bench.do(TURN)
        shown = list(bench.lines())
        self.assertEqual(next(rows), shown[0])
        bench.do(TURN)
        bench += (("cut", (0, 1, 2)),)
        self.assertEqual(list(rows), shown[1:])
        self.assertEqual(len(list(bench.lines())), 5)

    def test_twelve_faces(self):
        bench = Bench(drawn_stand(drum(9), 1))
        bench.do(("cut", (0, 1, 2)))
        kept = all_told(bench)
        with self.assertRaises(TooMany) as error:
            bench.do(("cut", (0, 2, 3)))
        self.assertEqual(error.exception.limit, 12)
        with self.assertRaises(TooMany) as error:
            bench += (TURN, ("cut", (0, 2, 3)), TURN)
        self.assertEqual(error.exception.limit, 12)
        self.assertEqual(all_told(bench), kept)


class Back(unittest.TestCase):
    def test_undo_and_redo(self):
        for seed, stand in enumerate(stands(4, 9)):
            dice = random.Random(seed)
            bench = Bench(stand)
            along = [(stand, ())]
            at = 0
            for _ in range(60):
                choice = dice.randrange(4)
                if choice == 0 and at > 0:
                    self.assertIsNone(bench.undo())
                    at -= 1
                elif choice == 1 and at < len(along) - 1:
                    self.assertIsNone(bench.redo())
                    at += 1
                elif choice > 1:
                    ahead, log = along[at]
                    if choice == 2:
                        script = (dice.choice(fine_steps(ahead)),)
                        bench.do(script[0])
                    else:
                        script = (dice.choice(fine_steps(ahead)), SAME)[:dice.randrange(3)]
                        bench += script
                    along = along[:at + 1] + [(course(ahead, script)[-1], log + script)]
                    at += 1
                self.assertEqual((bench.stand, bench.log), along[at])
                self.assertEqual(len(bench), at)

    def test_all_taken_back_and_done_anew(self):
        for seed, stand in enumerate(stands(4, 9)):
            dice = random.Random(seed)
            bench = Bench(stand)
            rows = [told(bench)]
            for _ in range(10):
                bench.do(dice.choice(fine_steps(bench.stand)))
                rows.append(told(bench))
            for row in rows[-2::-1]:
                bench.undo()
                self.assertEqual(told(bench), row)
            with self.assertRaises(NothingToUndo):
                bench.undo()
            for row in rows[1:]:
                bench.redo()
                self.assertEqual(told(bench), row)
            with self.assertRaises(NothingToRedo):
                bench.redo()

    def test_both_ends(self):
        bench = Bench(X)
        for _ in range(2):
            with self.assertRaises(NothingToUndo):
                bench.undo()
            with self.assertRaises(NothingToRedo):
                bench.redo()
        bench.do(SAME)
        bench.undo()
        self.assertIsNone(bench.redo())
        self.assertEqual(len(bench), 1)
        bench.undo()
        # What is done anew ends what could be done again, also if it leads to the same stand, or has no steps.
        for call in (lambda: bench.do(SAME), lambda: bench.__iadd__(())):
            bench.do(TURN)
            bench.undo()
            call()
            with self.assertRaises(NothingToRedo):
                bench.redo()

    def test_calls_that_err_change_nothing(self):
        bench = Bench(X)
        bench.do(TURN)
        bench.do(("cut", (0, 1, 2)))
        bench.undo()
        kept = all_told(bench)
        for step, error in ((("flip", (0, 4)), InvalidEdge), (("heal", 0), NoSeam), (("paints",), InvalidStep),
                            (None, InvalidStep)):
            with self.assertRaises(error):
                bench.do(step)
        for script, error in ((((TURN, ("flip", (0, 4))), InvalidEdge)), ((TURN, ("heal", 0), None), InvalidScript),
                              ((("cut", (0, 1, 2)), ("cut", (0, 1, 2))), RoundError), ([], InvalidScript),
                              ((TURN,) * 13, InvalidScript)):
            other = bench
            with self.assertRaises(error):
                bench += script
            self.assertIs(bench, other)
        self.assertEqual(all_told(bench), kept)
        bench.redo()
        self.assertEqual(len(bench.body), 5)

    def test_sixty_calls(self):
        for last in (lambda bench: bench.do(SAME), lambda bench: bench.__iadd__(()), lambda bench: bench.do(TURN),
                     lambda bench: bench.__iadd__((TURN,) * 12)):
            bench = Bench(X)
            for number in range(60):
                if number % 2:
                    bench.do((SAME, TURN)[number % 3 == 0])
                else:
                    bench += (TURN,) * (number % 13)
            self.assertEqual(len(bench), 60)
            kept = told(bench)
            with self.assertRaises(TooMany) as error:
                last(bench)
            self.assertEqual(error.exception.limit, 60)
            # The errors of the step and of the script come first.
            for call, wrong in ((lambda: bench.do(None), InvalidStep),
                                (lambda: bench.do(("flip", (0, 4))), InvalidEdge),
                                (lambda: bench.__iadd__(None), InvalidScript),
                                (lambda: bench.__iadd__((TURN, ("flip", (0, 4)))), InvalidEdge)):
                self.assertRaises(wrong, call)
            self.assertEqual(told(bench), kept)
            for _ in range(60):
                bench.undo()
            self.assertEqual(bench.stand, X)
            for _ in range(60):
                bench.redo()
            self.assertEqual(told(bench), kept)
            with self.assertRaises(NothingToRedo):
                bench.redo()
            bench.undo()
            last(bench)
            self.assertEqual(len(bench), 60)
        self.assertEqual(Bench.MOST, 60)


class Attempt(unittest.TestCase):
    def setUp(self):
        self.bench = Bench(X)
        self.bench.do(TURN)
        self.bench += (("cut", (0, 1, 2)), SAME)
        self.bench.do(("paint",))
        self.bench.undo()
        self.kept = all_told(self.bench)

    def test_functions_that_end_well(self):
        def action(bench):
            self.assertIs(bench, self.bench)
            bench.redo()
            bench.undo()
            bench.undo()
            bench.do(SAME)
            return [bench, 5]

        told_back = self.bench.attempt(action)
        self.assertIs(told_back[0], self.bench)
        self.assertEqual(told_back[1], 5)
        self.assertEqual(self.bench.log, (TURN, SAME))
        with self.assertRaises(NothingToRedo):
            self.bench.redo()
        self.assertIsNone(self.bench.attempt(lambda bench: bench.undo()))
        self.assertEqual(len(self.bench), 1)
        self.assertEqual(self.bench.attempt(len), 1)

    def test_functions_that_end_with_an_error(self):
        def several(bench, error):
            bench.undo()
            bench.do(TURN)
            bench += (SAME,)
            bench.undo()
            raise error

        for error in (NoSeam("odd"), ValueError("odd"), KeyError(3), ZeroDivisionError(), TypeError(), RuntimeError(),
                      StopIteration(), KeyboardInterrupt(), SystemExit(), TooMany(5), NothingToUndo("odd")):
            with self.assertRaises(type(error)) as caught:
                self.bench.attempt(lambda bench: several(bench, error))
            self.assertIs(caught.exception, error)
            self.assertEqual(all_told(self.bench), self.kept)
        for action in (lambda bench: bench.do(None), lambda bench: [bench.undo() for _ in range(9)],
                       lambda bench: [bench.do(SAME) for _ in range(99)], lambda bench: 1 // 0, lambda: 0,
                       lambda bench: [bench.redo() for _ in range(2)]):
            with self.assertRaises(Exception):
                self.bench.attempt(action)
            self.assertEqual(all_told(self.bench), self.kept)

    def test_within_one_another(self):
        def inner(bench):
            bench.do(TURN)
            bench.undo()
            raise NoSeam("inner")

        def outer(bench):
            bench.undo()
            before = all_told(bench)
            with self.assertRaises(NoSeam):
                bench.attempt(inner)
            self.assertEqual(all_told(bench), before)
            bench.attempt(lambda other: other.do(SAME))
            return len(bench)

        def outermost(bench):
            self.assertEqual(bench.attempt(outer), 2)
            raise LookupError

        with self.assertRaises(LookupError):
            self.bench.attempt(outermost)
        self.assertEqual(all_told(self.bench), self.kept)
        self.assertEqual(self.bench.attempt(lambda bench: bench.attempt(outer)), 2)
        self.assertEqual(self.bench.log, (TURN, SAME))

    def test_sixty_calls_within(self):
        bench = Bench(X)
        for _ in range(60):
            bench.do(TURN)
        kept = told(bench)
        with self.assertRaises(TooMany):
            bench.attempt(lambda other: other.undo() or [other.do(SAME) for _ in range(2)])
        self.assertEqual(told(bench), kept)


class Wrong(unittest.TestCase):
    def test_no_stands(self):
        for number, value in enumerate(odd_values() + odd_integers() + FALSE_FRIENDS["stand"](X)):
            with self.assertRaises(InvalidStand, msg=number):
                Bench(value)

    def test_no_steps_and_scripts(self):
        bench = Bench(X)
        for number, value in enumerate(odd_values() + odd_integers() + FALSE_FRIENDS["step"](None)):
            with self.assertRaises(InvalidStep, msg=number):
                bench.do(value)
        for number, value in enumerate(odd_values() + odd_integers() + FALSE_FRIENDS["script"](SCRIPT)):
            if type(value) is not tuple or value:
                with self.assertRaises(InvalidScript, msg=number):
                    bench += value
        self.assertEqual((bench.stand, len(bench)), (X, 0))

    def test_edges(self):
        for stand in (X, drawn_stand(K, 1), drawn_stand(ball(), 2)):
            bench = Bench(stand)
            wrong = odd_values() + odd_integers() + FALSE_FRIENDS["edge"](stand[0]) + [(False, True), ((0, 1),)]
            for number, value in enumerate(wrong):
                self.assertIs(value in bench, False, number)
                with self.assertRaises(InvalidEdge, msg=number):
                    bench[value]

    def test_equal(self):
        one, other = Bench(X), Bench(X)
        self.assertTrue(one == other and not one != other)
        one.do(SAME)
        self.assertEqual(one, other)
        one.do(TURN)
        self.assertNotEqual(one, other)
        one.undo()
        self.assertEqual(one, other)
        for value in [None, 5, X, list(X), F, Body(*F), Hues(F, *H), deep(tuple, 90), Bench(drawn_stand(P, 1))]:
            self.assertIs(one == value, False)
            self.assertIs(one != value, True)

    def test_others_stay_as_they_are(self):
        one, other = Bench(X), Bench(X)
        held = one
        one += (TURN, ("cut", (0, 1, 2)))
        self.assertIs(held, one)
        self.assertEqual((held.body, len(held)), (done(done(X, TURN), ("cut", (0, 1, 2)))[0], 1))
        self.assertEqual((other.stand, len(other), other.log), (X, 0, ()))
        self.assertEqual(X, (F, H, R, T))
        stand = drawn_stand(drawn(7, 2), 3)
        bench = Bench(stand)
        told(bench)
        self.assertEqual(bench.stand, stand)
