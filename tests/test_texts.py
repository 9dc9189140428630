"""Bodies, hues, signs, edges and scripts as texts."""

import random
import unittest

from huesandrounds.bodies import edges
from huesandrounds.edgehues import edge_hues
from huesandrounds.errors import InvalidBody, InvalidEdges, InvalidScript, InvalidText
from huesandrounds.facehues import all_face_hues, first_face_hues, to_edges
from huesandrounds.signs import all_signs, signs_of
from huesandrounds.stands import is_script
from huesandrounds.texts import (body_text, edges_text, face_text, hues_text, read_body, read_edges, read_faces,
                                 read_hues, read_script, read_signs, script_text, signs_text)
from tests.brute import edges_of
from tests.calls import bent_texts
from tests.support import F, H, K, P, Q, ball, deep, drum, odd_integers, odd_values, some_bodies


def drawn_step(seed):
    """A step of any word, with numbers in the whole range that they may have."""
    dice = random.Random(seed)

    def several(many):
        return tuple(sorted(dice.sample(range(12), many)))

    word = ("exchange", "rename", "flip", "flop", "graft", "paint", "trace", "cut", "heal")[seed % 9]
    return {"exchange": (word, several(2), dice.randrange(3)), "rename": (word, tuple(dice.sample(range(3), 3))),
            "flip": (word, several(2)), "flop": (word, several(2)), "graft": (word, several(2), several(2)),
            "paint": (word,), "trace": (word, dice.randrange(3)), "cut": (word, several(3)),
            "heal": (word, dice.randrange(12))}[word]


def drawn_script(seed):
    dice = random.Random(seed)
    return tuple(drawn_step(dice.randrange(10 ** 6)) for _ in range(seed % 13))


def slow_step_text(step):
    """The text of a step, by what its items look like."""
    words = [step[0]]
    for item in step[1:]:
        if type(item) is int:
            words.append(str(item))
        elif step[0] == "rename":
            words.append("".join(map(str, item)))
        else:
            words.append("-".join(map(str, item)))
    return " ".join(words)


class Written(unittest.TestCase):
    def test_bodies(self):
        for body in some_bodies(4, 12, 3) + [K, Q, ball()]:
            text = body_text(body)
            self.assertEqual(text, " / ".join(" ".join(map(str, ring)) for ring in body))
            self.assertEqual(read_body(text), body)
        self.assertTrue(any("11" in body_text(body) for body in some_bodies(12, 12)))

    def test_hues_and_signs(self):
        for body in some_bodies(4, 8, 1) + [K]:
            for hues in edge_hues(body)[::7]:
                self.assertEqual(hues_text(body, hues), "".join(map(str, hues)))
                self.assertEqual(read_hues(body, hues_text(body, hues)), hues)
            for face_hues in all_face_hues(body)[::17]:
                self.assertEqual(face_text(body, face_hues), "".join(map(str, face_hues)))
                self.assertEqual(read_faces(body, face_text(body, face_hues)), face_hues)
            for signs in all_signs(body):
                self.assertEqual(signs_text(body, signs), "".join("+" if sign == 1 else "-" for sign in signs))
                self.assertEqual(read_signs(body, signs_text(body, signs)), signs)

    def test_edges(self):
        for body in some_bodies(4, 12, 2) + [ball()]:
            dice = random.Random(len(body))
            for many in (0, 1, 2, 5, len(edges_of(body))):
                some = tuple(sorted(dice.sample(edges_of(body), many)))
                text = edges_text(body, some)
                self.assertEqual(text, " ".join(f"{one}-{other}" for one, other in some))
                self.assertEqual(read_edges(body, text), some)
        self.assertEqual(edges_text(F, ()), "")
        self.assertEqual(read_edges(F, ""), ())

    def test_scripts(self):
        for seed in range(200):
            script = drawn_script(seed)
            self.assertIs(is_script(script), True)
            text = script_text(script)
            self.assertEqual(text, "\n".join(map(slow_step_text, script)))
            self.assertEqual(read_script(text), script)
        self.assertEqual(read_script(""), ())
        self.assertEqual(read_script("\n".join(["paint"] * 12)), (("paint",),) * 12)


class Read(unittest.TestCase):
    def test_bent_texts(self):
        for body in (F, P, K, drum(9), ball()):
            hues = to_edges(body, first_face_hues(body))
            rows = [(read_body, (), body_text(body)), (read_hues, (body,), hues_text(body, hues)),
                    (read_faces, (body,), face_text(body, first_face_hues(body))),
                    (read_signs, (body,), signs_text(body, signs_of(body, hues))),
                    (read_edges, (body,), edges_text(body, tuple(edges(body)))),
                    (read_script, (), script_text((("cut", (0, 1, 11)), ("heal", 10), ("rename", (2, 1, 0)))))]
            for call, args, text in rows:
                call(*args, text)
                for number, value in enumerate(bent_texts(text) + odd_values() + odd_integers()):
                    if value != "" or call not in (read_edges, read_script):
                        with self.assertRaises(InvalidText, msg=number):
                            call(*args, value)

    def test_texts_of_bodies(self):
        text = body_text(F)
        for value in ("1 2 3 / 0 3 2 / 0 1 3 / 0 2 01", "1 2 3 / 0 3 2 / 0 1 3 / 0 2 1 /", "1 2 3/0 3 2/0 1 3/0 2 1",
                      "1 2 3 / 0 3 2 / 0 1 3 / 0 2 1 / ", "1,2,3 / 0,3,2 / 0,1,3 / 0,2,1",
                      "2 3 1 / 0 3 2 / 0 1 3 / 0 2 1", "1 2 3 / 0 3 2 / 0 1 3", "1 2 3  / 0 3 2 / 0 1 3 / 0 2 1",
                      "1 2 3\n/ 0 3 2 / 0 1 3 / 0 2 1",
                      " " + text, text + " ", text + "\n", text.replace("3", "-3"), text.replace("3", "3.0"), "",
                      " / ", " / " * 3, "1 2 3", text.replace("0", "O"), "1 2 3 / 0 3 2 / 0 2 3 / 0 1 2", "F", str(F)):
            with self.assertRaises(InvalidText, msg=value):
                read_body(value)

    def test_texts_of_hues(self):
        for value in ("012211", "01221", "0122100", "01221O", "012 210", "-12210", "000000", "", "0,1,2,2,1,0",
                      "012213"):
            with self.assertRaises(InvalidText, msg=value):
                read_hues(F, value)
        self.assertEqual(read_hues(F, "012210"), H)
        for at in range(6):
            for sign in "x -+/O\n3":
                with self.assertRaises(InvalidText, msg=(at, sign)):
                    read_hues(F, "012210"[:at] + sign + "012210"[at + 1:])
                if at < 4 and sign != "3":
                    with self.assertRaises(InvalidText, msg=(at, sign)):
                        read_faces(F, "3210"[:at] + sign + "3210"[at + 1:])
        for value in ("0122", "012", "01234", "0124", "012 3", "", "0 1 2 3", "0012"):
            with self.assertRaises(InvalidText, msg=value):
                read_faces(F, value)
        self.assertEqual(read_faces(F, "3210"), (3, 2, 1, 0))
        for value in ("+++-", "+++", "+++++", "1111", "    ", "", "++ ++", "+-+-", "====", "0000"):
            with self.assertRaises(InvalidText, msg=value):
                read_signs(F, value)
        self.assertEqual(read_signs(F, "++++"), (1, 1, 1, 1))

    def test_texts_of_edges(self):
        for value in (" ", "0-1 ", " 0-1", "0-1  0-2", "0-2 0-1", "0-1 0-1", "1-0", "0-4", "0-01", "00-1", "0--1",
                      "0-1-2", "0", "0-", "-1", "-", "0 1", "0-1,0-2", "0-1\n0-2", "0-1\n", "0+1", "0-1 0", "a-b",
                      "0-1 -", "(0, 1)"):
            with self.assertRaises(InvalidText, msg=value):
                read_edges(F, value)

    def test_texts_of_scripts(self):
        for value in (" ", "\n", "paint\n", "\npaint", "paint ", " paint", "paint\n\npaint", "Paint", "paint paint",
                      "trace", "trace 3", "trace 02", "trace  2", "trace -1", "trace 2 ", "flip 0-1-2", "flip 1-0",
                      "flip 0-12", "flip 0-01", "flip 0 1", "cut 0-1", "cut 0-1-12", "cut 2-1-0", "cut 0-0-1",
                      "heal 12", "heal 04", "heal", "heal four", "heal +4", "heal 4\n ", "rename 012 ", "rename 013",
                      "rename 0-1-2", "rename 12", "rename 0121", "rename 1 2 0", "exchange 0-1", "exchange 0-1 3",
                      "exchange 0-1 1 1", "exchange 1 0-1", "graft 0-1", "graft 0-1 1", "graft 0-1 2-1",
                      "paint\rpaint", "paint\n" * 13, "\n".join(["paint"] * 13), "paint;paint", "script", "0", "keys",
                      "get"):
            with self.assertRaises(InvalidText, msg=value):
                read_script(value)


class Wrong(unittest.TestCase):
    def test_leftmost_first(self):
        for call in (hues_text, face_text, signs_text, edges_text, read_hues, read_faces, read_signs, read_edges):
            for value in odd_values() + [F[:3], F[::-1]]:
                with self.assertRaises(InvalidBody):
                    call(value, None)
        for value in ([(0, 1)], ((0, 2), (0, 1)), ((0, 4),), deep(tuple, 90), None, "0-1"):
            with self.assertRaises(InvalidEdges):
                edges_text(F, value)
        for value in ([("paint",)], ("paint",), (("paint",),) * 13, (("paints",),), None, "", "paint", deep(tuple, 90)):
            with self.assertRaises(InvalidScript):
                script_text(value)

    def test_the_empty_text(self):
        for call, args in ((read_body, ()), (read_hues, (F,)), (read_faces, (F,)), (read_signs, (F,))):
            with self.assertRaises(InvalidText):
                call(*args, "")
        self.assertEqual((read_edges(K, ""), read_script(""), script_text(())), ((), (), ""))
        self.assertEqual(read_body(body_text(P)), P)
