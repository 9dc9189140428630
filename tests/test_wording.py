"""Words of rounds, and the bodies that words make."""

import unittest
from itertools import product

from huesandrounds.errors import InvalidWord
from huesandrounds.forms import alike, bodies, own_turns, plain
from huesandrounds.rounds import count_rounds
from huesandrounds.wording import body_of, count_words, is_word, word, words
from tests.brute import all_rounds, corners_of, edges_at, edges_on, lands_of
from tests.support import F, K, P, R, ball, drawn, drum, odd_integers, odd_values, some_bodies


def slow_is_word(text):
    if type(text) is not str or len(text) not in range(4, 21):
        return False
    for opening, closing in ("()", "[]"):
        rest = [sign for sign in text if sign in (opening, closing)]
        depth = 0
        for sign in rest:
            depth += 1 if sign == opening else -1
            if depth < 0:
                return False
        if depth != 0:
            return False
    return set(text) <= set("()[]")


def slow_word(body, tour, walk):
    """The word of a round, told by the words of the document, sign for sign."""
    signs = ""
    for at, corner in enumerate(walk):
        left = [edge for edge in edges_at(corner) if edge not in tour][0]
        other = [item for item in walk if set(left) <= set(item) and item != corner][0]
        inner = set(left) <= set(lands_of(body, tour)[0])
        signs += ("(" if inner else "[") if walk.index(other) > at else (")" if inner else "]")
    return signs


def slow_walks(body, tour):
    """All corners as a round is walked, from each corner, both ways."""
    near = {}
    for edge in tour:
        one, other = [corner for corner in corners_of(body) if set(edge) <= set(corner)]
        near.setdefault(one, []).append(other)
        near.setdefault(other, []).append(one)
    for start in near:
        for second in near[start]:
            walk = [start, second]
            while len(walk) < len(near):
                walk.append([item for item in near[walk[-1]] if item != walk[-2]][0])
            yield walk


class Words(unittest.TestCase):
    def test_all_short_strings(self):
        for many in range(0, 9):
            for signs in product("()[]", repeat=many):
                text = "".join(signs)
                self.assertIs(is_word(text), slow_is_word(text))

    def test_lengths(self):
        self.assertEqual([many for many in range(0, 15) if is_word("([)]" * many)], [1, 2, 3, 4, 5])
        self.assertEqual([many for many in range(0, 15) if is_word("()" * many)], list(range(2, 11)))
        self.assertEqual([is_word("(" * many + ")" * many) for many in (1, 2, 10, 11)], [False, True, True, False])
        self.assertFalse(is_word("()[]("))

    def test_no_words(self):
        wrong = odd_values() + odd_integers() + ["(())\n", " ()()", "<><>", "()()x", list("()()"), ("()", "()")]
        for number, value in enumerate(wrong):
            self.assertIs(is_word(value), False, number)
            with self.assertRaises(InvalidWord, msg=number):
                body_of(value)

    def test_words_of_rounds(self):
        for body in some_bodies(4, 12, 1) + [K, ball()]:
            for tour in all_rounds(body)[::3]:
                for walk in list(slow_walks(body, tour))[::3]:
                    text = word(body, tour, walk[0], edges_on(walk[:2])[0])
                    self.assertEqual(text, slow_word(body, tour, walk))
                    self.assertTrue(is_word(text))

    def test_each_word_makes_its_body(self):
        for body in some_bodies(4, 12, 2) + [K, ball()]:
            form = plain(body)
            for tour in all_rounds(body)[:3]:
                for walk in list(slow_walks(body, tour))[::5]:
                    self.assertEqual(body_of(slow_word(body, tour, walk)), form)

    def test_all_words_of_small_bodies(self):
        for faces in (4, 5, 6):
            made = {}
            for signs in product("()[]", repeat=2 * faces - 4):
                text = "".join(signs)
                if slow_is_word(text) and body_of(text) is not None:
                    made.setdefault(body_of(text), []).append(text)
            self.assertEqual(sorted(made), bodies(faces))
            for body in made:
                self.assertEqual(words(body), made[body])
                self.assertEqual(count_words(body), len(made[body]))

    def test_all_words_of_six_signs(self):
        texts = ["".join(signs) for signs in product("()[]", repeat=6)]
        made = [(text, body_of(text)) for text in texts if slow_is_word(text)]
        self.assertEqual(len(made), 70)
        self.assertEqual({body for _, body in made}, {None, plain(P)})
        for body in {body for _, body in made if body is not None}:
            self.assertEqual([text for text, other in made if other == body], words(body))
            self.assertEqual(words(P), words(body))

    def test_words_are_those_of_all_walks(self):
        for body in some_bodies(4, 7, 2) + [K]:
            found = {slow_word(body, tour, walk) for tour in all_rounds(body) for walk in slow_walks(body, tour)}
            # The face 0 can be in the other land.
            turned = {text.translate(str.maketrans("()[]", "[]()")) for text in found}
            self.assertEqual(words(body), sorted(found | turned))

    def test_all_words_of_bodies_of_seven_faces(self):
        made = []
        for body in bodies(7):
            found = words(body)
            self.assertEqual(found, sorted(set(found)))
            self.assertEqual(len(found), count_words(body))
            self.assertTrue(all(alike(body_of(text), body) for text in found[::7]))
            made.extend(found)
        self.assertEqual(len(made), len(set(made)))

    def test_numbers(self):
        for body in some_bodies(4, 12, 2) + [ball()]:
            many = 4 * count_rounds(body) * len(corners_of(body))
            self.assertEqual(count_words(body) * len(own_turns(body)), many)
            self.assertIs(type(count_words(body)), int)
        self.assertEqual(count_words(ball()), 20)

    def test_alike_bodies_have_the_same_words(self):
        for body in (drawn(7, 1), drawn(6, 2), drum(5)):
            self.assertEqual(words(body), words(plain(body)))

    def test_words_that_make_no_body(self):
        for text in ("()()", "(())", "()[]", "[][]", "([])", "(" * 10 + ")" * 10, "()" * 10, "[]()" * 5):
            self.assertIsNone(body_of(text))
        self.assertEqual(body_of("([)]"), F)
        self.assertEqual(word(F, R, (0, 1, 2), (0, 1)), "[(])")
        self.assertEqual(len(words(P)), 6)
