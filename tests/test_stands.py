"""Stands, steps and scripts."""

import random
import unittest

from huesandrounds.cutting import cut, healed
from huesandrounds.edgehues import exchanged, is_edge_hues
from huesandrounds.errors import (InvalidCorner, InvalidEdge, InvalidFace, InvalidHue, InvalidScript, InvalidStand,
                                  InvalidStep, NoRound, NoSeam, RoundError, Tangled, TooMany)
from huesandrounds.facehues import first_face_hues, to_edges
from huesandrounds.rounds import hues_by, is_round, rounds
from huesandrounds.stands import back, course, done, is_script, is_stand, is_step
from huesandrounds.trees import is_edge_tree
from huesandrounds.walks import carried, carried_back
from tests.brute import corners_of, edges_at, edges_of
from tests.calls import FALSE_FRIENDS, SCRIPT
from tests.support import (F, H, K, P, Q, R, T, X, ball, bent, deep, drawn, drawn_tree, drum, odd_integers, odd_values,
                           pair, some_bodies)
from tests.test_exchanging import slow_exchanges, swapped
from tests.test_texts import drawn_script, drawn_step


def drawn_stand(body, seed):
    """A body with drawn edge hues, a drawn round and a drawn tree."""
    dice = random.Random(seed)
    hues = to_edges(body, first_face_hues(body))
    for _ in range(5):
        at = dice.randrange(len(hues))
        hues = exchanged(body, hues, edges_of(body)[at], (hues[at] + dice.choice((1, 2))) % 3)
    return (body, hues, dice.choice(rounds(body)), drawn_tree(body, seed))


def stands(least=4, most=12, each=2):
    bodies = some_bodies(least, most, each) + [K, Q, ball()]
    return [drawn_stand(body, number) for number, body in enumerate(bodies)]


def hue_of(stand):
    return dict(zip(edges_of(stand[0]), stand[1]))


def slow_cut(stand, corner):
    """The stand with a corner cut off, by the words of the document."""
    body, _, tour, tree = stand
    fresh = len(body)
    hues = hue_of(stand)
    for face in corner:
        one, other = [item for item in corner if item != face]
        hues[(face, fresh)] = hue_of(stand)[(one, other)]
    left = [edge for edge in edges_at(corner) if edge not in tour][0]
    more = sorted([(face, fresh) for face in corner])[:2]
    return (cut(body, (corner, -1)), tuple(hues[edge] for edge in sorted(hues)),
            tuple(sorted(tour + tuple((face, fresh) for face in left))), tuple(sorted(tree + tuple(more))))


def slow_heal(stand, face):
    """The stand with a face of three sides healed, by the words of the document."""
    body, _, tour, tree = stand

    def kept(some):
        return tuple(sorted(pair(*[item - (item > face) for item in edge]) for edge in some if face not in edge))

    hues = {kept([edge])[0]: hue for edge, hue in hue_of(stand).items() if face not in edge}
    return (healed(body, (face, -1)), tuple(hues[edge] for edge in sorted(hues)), kept(tour), kept(tree))


def fine_steps(stand):
    """Steps of all words that can be done on a stand, and the errors of some that cannot."""
    body, hues, tour, tree = stand
    found = [("exchange", edge, (hue + more) % 3) for edge, hue in list(hue_of(stand).items())[::3] for more in (1, 2)]
    found += [("rename", order) for order in ((0, 1, 2), (1, 2, 0), (2, 1, 0))]
    found += [(word, edge) for word in ("flip", "flop") for edge in tour[::3]] + [("paint",)]
    found += [("graft", into, out) for out, into in slow_exchanges(body, tree)[::5]]
    found += [("trace", hue) for hue in range(3)
              if is_round(body, tuple(edge for edge in edges_of(body) if hue_of(stand)[edge] != hue))]
    if len(body) < 12:
        found += [("cut", corner) for corner in corners_of(body)[::2]]
    for face, ring in enumerate(body):
        if len(ring) == 3 and len(body) > 4 and sum(face in edge for edge in tree) == 2:
            found.append(("heal", face))
    return found


class Kinds(unittest.TestCase):
    def test_stands(self):
        for stand in stands():
            self.assertIs(is_stand(stand), True)
            body, hues, tour, tree = stand
            wrong = [(body, hues, tour), (body, hues, tree, tour), (hues, body, tour, tree), stand + (tree,),
                     list(stand), (body, list(hues), tour, tree), (body, hues, tree, tree), (body, hues, tour, tour)]
            for number, value in enumerate(wrong + bent(stand) + FALSE_FRIENDS["stand"](stand)):
                self.assertIs(is_stand(value), False, number)
        wrong = [(deep(tuple, 90),) * 4, (F, deep(tuple, 90), R, T)]
        for number, value in enumerate(odd_values() + odd_integers() + wrong):
            self.assertIs(is_stand(value), False, number)

    def test_steps(self):
        for seed in range(300):
            step = drawn_step(seed)
            self.assertIs(is_step(step), True, step)
            for number, value in enumerate(bent(step)):
                told = type(value) is tuple and value[:1] == ("paint",) and len(value) == 1
                self.assertIs(is_step(value), told, (step, number))
        for number, value in enumerate(FALSE_FRIENDS["step"](None) + odd_values() + odd_integers()):
            self.assertIs(is_step(value), False, number)
        for value in (("exchange", (0, 11), 2), ("cut", (9, 10, 11)), ("heal", 11), ("heal", 0), ("trace", 0),
                      ("paint",)):
            self.assertIs(is_step(value), True)

    def test_scripts(self):
        for seed in range(60):
            self.assertIs(is_script(drawn_script(seed)), True)
        for many in range(13):
            self.assertIs(is_script((("paint",),) * many), True)
        wrong = FALSE_FRIENDS["script"](SCRIPT) + [(("paint",),) * 13, ((),), [("paint",)]]
        for number, value in enumerate(wrong + [value for value in odd_values() if type(value) is not tuple or value]):
            self.assertIs(is_script(value), False, number)


class Done(unittest.TestCase):
    def test_what_comes_is_a_stand(self):
        for stand in stands():
            for step in fine_steps(stand):
                told = done(stand, step)
                self.assertIs(is_stand(told), True, step)
                body, hues, tour, tree = told
                self.assertTrue(is_edge_hues(body, hues) and is_round(body, tour) and is_edge_tree(body, tree))

    def test_what_stays(self):
        places = {"exchange": 1, "rename": 1, "paint": 1, "flip": 2, "flop": 2, "trace": 2, "graft": 3}
        for stand in stands():
            for step in fine_steps(stand):
                if step[0] in places:
                    told = done(stand, step)
                    at = places[step[0]]
                    self.assertEqual(told[:at] + told[at + 1:], stand[:at] + stand[at + 1:])

    def test_hues(self):
        for stand in stands():
            body, hues, tour, _ = stand
            for step in fine_steps(stand):
                told = done(stand, step)
                if step[0] == "exchange":
                    self.assertEqual(told[1], exchanged(body, hues, step[1], step[2]))
                if step[0] == "rename":
                    self.assertEqual(told[1], tuple(step[1][hue] for hue in hues))
            self.assertEqual(done(stand, ("paint",))[1], hues_by(body, tour))
            self.assertEqual(done(done(stand, ("paint",)), ("trace", 2)), done(stand, ("paint",)))

    def test_rounds(self):
        for stand in stands():
            body, hues, tour, tree = stand
            for edge in tour[::2]:
                through = [other for other in rounds(body) if edge in other]
                at = through.index(tour)
                self.assertEqual(done(stand, ("flip", edge))[2], through[(at + 1) % len(through)])
                self.assertEqual(done(stand, ("flop", edge))[2], through[at - 1])
                for other in (through[0], through[-1]):
                    led = (body, hues, other, tree)
                    self.assertEqual(done(done(led, ("flip", edge)), ("flop", edge)), led)
            for hue in range(3):
                told = tuple(edge for edge in edges_of(body) if hue_of(stand)[edge] != hue)
                if is_round(body, told):
                    self.assertEqual(done(stand, ("trace", hue))[2], told)
                else:
                    with self.assertRaises(NoRound):
                        done(stand, ("trace", hue))

    def test_trees(self):
        for stand in stands():
            body, _, _, tree = stand
            fine = slow_exchanges(body, tree)
            for out in edges_of(body)[::2]:
                for into in edges_of(body)[::3]:
                    if (out, into) in fine:
                        self.assertEqual(done(stand, ("graft", into, out))[3], swapped(tree, out, into))
                    else:
                        with self.assertRaises(InvalidEdge):
                            done(stand, ("graft", into, out))

    def test_cutting_and_healing(self):
        for stand in stands(4, 11):
            if len(stand[0]) == 12:
                continue
            for corner in corners_of(stand[0]):
                told = done(stand, ("cut", corner))
                self.assertEqual(told, slow_cut(stand, corner))
                self.assertEqual(told[2], carried(stand[0], stand[2], corner))
                self.assertEqual(done(told, ("heal", len(stand[0]))), stand)

    def test_healing(self):
        tangled, healings = 0, 0
        for stand in stands(5, 12, 5):
            body, _, tour, tree = stand
            for face, ring in enumerate(body):
                if len(ring) != 3:
                    continue
                if sum(face in edge for edge in tree) == 2:
                    healings += 1
                    self.assertEqual(done(stand, ("heal", face)), slow_heal(stand, face))
                    self.assertEqual(done(stand, ("heal", face))[2], carried_back(body, tour, face))
                else:
                    tangled += 1
                    with self.assertRaises(Tangled):
                        done(stand, ("heal", face))
        self.assertGreater(min(tangled, healings), 10)


class Errors(unittest.TestCase):
    def error_of(self, stand, step):
        try:
            done(stand, step)
        except RoundError as error:
            return type(error)
        return None

    def test_by_word(self):
        stand = drawn_stand(K, 1)
        body, hues, tour, tree = stand
        out = [edge for edge in edges_of(K) if edge not in tour][0]
        into = [edge for edge in edges_of(K) if edge not in tree][0]
        far = [edge for edge in tree if (edge, into) not in slow_exchanges(K, tree)][0]
        for step, error in [
            (("exchange", (0, 5), 1), InvalidEdge), (("exchange", (0, 6), 1), InvalidEdge),
            (("exchange", (0, 1), hues[0]), InvalidHue), (("flip", (0, 5)), InvalidEdge), (("flip", out), InvalidEdge),
            (("flop", (10, 11)), InvalidEdge), (("flop", out), InvalidEdge), (("graft", (0, 5), (0, 5)), InvalidEdge),
            (("graft", tree[0], tree[1]), InvalidEdge), (("graft", tree[0], tree[0]), InvalidEdge),
            (("graft", into, far), InvalidEdge), (("graft", into, into), InvalidEdge),
            (("graft", into, (0, 5)), InvalidEdge), (("graft", into, (10, 11)), InvalidEdge),
            (("cut", (0, 1, 5)), InvalidCorner), (("cut", (9, 10, 11)), InvalidCorner), (("heal", 6), InvalidFace),
            (("heal", 11), InvalidFace), (("heal", 0), NoSeam),
        ]:
            self.assertIs(self.error_of(stand, step), error, step)
            for call in (done, back):
                with self.assertRaises(error):
                    call(stand, step)
            with self.assertRaises(error):
                course(stand, (("rename", (0, 1, 2)), step, ("heal", 11)))
        self.assertEqual([self.error_of(X, ("heal", face)) for face in range(6)], [NoSeam] * 4 + [InvalidFace] * 2)

    def test_at_twelve_faces(self):
        for body in (ball(), drum(10), drawn(12, 3)):
            stand = drawn_stand(body, 5)
            for corner in corners_of(body)[::5]:
                with self.assertRaises(TooMany) as told:
                    done(stand, ("cut", corner))
                self.assertEqual(told.exception.limit, 12)
            not_met = [(one, other, last) for one in range(12) for other in range(one) for last in range(other)]
            wrong = [row[::-1] for row in not_met if row[::-1] not in corners_of(body)][0]
            self.assertIs(self.error_of(stand, ("cut", wrong)), InvalidCorner)

    def test_no_seam_comes_before_tangled(self):
        stand = drawn_stand(K, 2)
        for face in range(6):
            self.assertIs(self.error_of(stand, ("heal", face)), NoSeam)

    def test_no_stands_and_steps(self):
        for call in (done, back):
            for number, value in enumerate(odd_values() + FALSE_FRIENDS["stand"](X)):
                with self.assertRaises(InvalidStand, msg=number):
                    call(value, None)
            for number, value in enumerate(odd_values() + odd_integers() + FALSE_FRIENDS["step"](None)):
                with self.assertRaises(InvalidStep, msg=number):
                    call(X, value)
        for number, value in enumerate(odd_values() + FALSE_FRIENDS["script"](SCRIPT)):
            with self.assertRaises(InvalidStand, msg=number):
                course(None, value)
            if type(value) is not tuple or value:
                with self.assertRaises(InvalidScript, msg=number):
                    course(X, value)


class Course(unittest.TestCase):
    def test_step_by_step(self):
        for seed, stand in enumerate(stands()):
            dice = random.Random(seed)
            script, along = [], [stand]
            for _ in range(seed % 13):
                step = dice.choice(fine_steps(along[-1]))
                script.append(step)
                along.append(done(along[-1], step))
            self.assertEqual(course(stand, tuple(script)), along)
            self.assertIsNot(course(stand, tuple(script)), course(stand, tuple(script)))
        self.assertEqual(course(X, ()), [X])

    def test_back(self):
        met = set()
        for stand in stands():
            for step in fine_steps(stand):
                told = back(stand, step)
                self.assertEqual(told is None, step[0] in ("paint", "trace", "heal"))
                if told is not None:
                    self.assertIs(is_step(told), True)
                    self.assertEqual(done(done(stand, step), told), stand)
                    met.add((step[0], told[0]))
        self.assertEqual(met, {("exchange", "exchange"), ("rename", "rename"), ("flip", "flop"), ("flop", "flip"),
                               ("graft", "graft"), ("cut", "heal")})

    def test_what_back_tells(self):
        stand = drawn_stand(P, 4)
        hues = hue_of(stand)
        for edge in edges_of(P):
            for more in (1, 2):
                step = ("exchange", edge, (hues[edge] + more) % 3)
                self.assertEqual(back(stand, step), ("exchange", edge, hues[edge]))
        for order, undone in (((0, 1, 2), (0, 1, 2)), ((1, 2, 0), (2, 0, 1)), ((2, 0, 1), (1, 2, 0)),
                              ((2, 1, 0), (2, 1, 0)), ((0, 2, 1), (0, 2, 1)), ((1, 0, 2), (1, 0, 2))):
            self.assertEqual(back(stand, ("rename", order)), ("rename", undone))
        self.assertEqual(back(stand, ("cut", (0, 1, 2))), ("heal", 5))
        self.assertEqual(back(X, ("graft", (0, 3), (0, 1))), ("graft", (0, 1), (0, 3)))
        self.assertEqual(done(X, ("exchange", (0, 1), 1))[1], exchanged(F, H, (0, 1), 1))
