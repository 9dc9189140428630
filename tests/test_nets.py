"""Rims of trees, and the nets into which bodies are opened along them."""

import unittest

from huesandrounds.errors import InvalidNet, TooMany
from huesandrounds.forms import mirrored, own_turns
from huesandrounds.nets import count_nets, like_nets, net, rim, tree_of
from tests.brute import all_trees, begin_and_end, ends_of, turned_of
from tests.support import (F, K, P, Q, ball, bent, deep, drawn, drawn_tree, drum, odd_integers, odd_values, pair,
                           some_bodies)


def slow_rim(body, tree):
    """The rim, gone step by step from the beginning of the least edge until one would go there again."""
    start = (tree[0], begin_and_end(body, tree[0])[0])
    edge, corner = start
    walk = []
    while True:
        walk.append(corner)
        corner = [item for item in ends_of(body, edge) if item != corner][0]
        a, b, c = turned_of(body)[corner]
        trio = [pair(a, b), pair(b, c), pair(c, a)]
        at = trio.index(edge)
        edge = [trio[(at + step) % 3] for step in (1, 2, 3) if trio[(at + step) % 3] in tree][0]
        if (edge, corner) == start:
            return tuple(walk)


def slow_net(body, tree, face, came=None):
    ring = body[face]
    at = 0 if came is None else ring.index(came) + 1
    order = [item for item in ring[at:] + ring[:at] if item != came]
    return (face, tuple(slow_net(body, tree, item, face) for item in order if pair(face, item) not in tree))


def some_trees(body):
    return all_trees(body)[::7] if len(body) <= 6 else [drawn_tree(body, seed) for seed in range(5)]


def led(tree, turn):
    return tuple(sorted(pair(turn[one], turn[other]) for one, other in tree))


class Rims(unittest.TestCase):
    def test_rims(self):
        for body in some_bodies(4, 12, 1) + [K, Q, ball(), mirrored(Q)]:
            for tree in some_trees(body):
                told = rim(body, tree)
                self.assertEqual(told, slow_rim(body, tree))
                self.assertEqual(len(told), 2 * len(tree))


class Nets(unittest.TestCase):
    def test_nets(self):
        for body in some_bodies(4, 12, 1) + [K, Q, ball()]:
            for tree in some_trees(body):
                for face in range(len(body)):
                    told = net(body, tree, face)
                    self.assertEqual(told, slow_net(body, tree, face))
                    self.assertEqual(tree_of(body, told), tree)

    def test_unlike_trees_have_unlike_nets(self):
        for body in (F, P, K):
            for face in range(len(body)):
                self.assertEqual(len({net(body, tree, face) for tree in all_trees(body)}), len(all_trees(body)))

    def test_no_nets(self):
        for body in (F, P, K, Q, ball()):
            tree = drawn_tree(body, 2)
            for face in range(3):
                fine = net(body, tree, face)
                for number, value in enumerate(odd_values() + odd_integers() + bent(fine) + small_faults(body, fine)):
                    with self.assertRaises(InvalidNet, msg=number):
                        tree_of(body, value)

    def test_deep_values(self):
        for body in (F, ball()):
            value = ()
            for face in list(range(len(body))) * 3:
                value = (face, (value, value))
                with self.assertRaises(InvalidNet):
                    tree_of(body, value)
                with self.assertRaises(InvalidNet):
                    tree_of(body, (face, deep(tuple, 90)))
            value = (0, ())
            for face in range(1, 12):
                value = (face, (value,))
                with self.assertRaises(InvalidNet):
                    tree_of(body, (0, (value,) * 90))

    def test_like_nets(self):
        for body in (F, P, K, drum(4), Q, drawn(6, 2)):
            turns = own_turns(body)
            for one in all_trees(body)[::37]:
                same = {led(one, turn) for turn in turns}
                for other in all_trees(body)[::11] + sorted(same)[::5]:
                    self.assertIs(like_nets(body, one, other), other in same)
        for body in (ball(), drum(10)):
            one, other = drawn_tree(body, 1), drawn_tree(body, 2)
            for turn in own_turns(body)[::9]:
                self.assertIs(like_nets(body, one, led(one, turn)), True)
                self.assertIs(like_nets(body, led(other, turn), one), False)

    def test_numbers(self):
        for body in some_bodies(4, 6, 3) + [K, Q]:
            turns = own_turns(body)
            least = {min(led(tree, turn) for turn in turns) for tree in all_trees(body)}
            self.assertEqual(count_nets(body), len(least))
        self.assertEqual([count_nets(body) for body in (F, P, K)], [2, 9, 11])
        for body in (drawn(7, 1), ball()):
            with self.assertRaises(TooMany) as caught:
                count_nets(body)
            self.assertEqual(caught.exception.limit, 6)


def small_faults(body, fine):
    """Values near a net: in other orders, with faces of other kinds, more or fewer faces."""
    face, behind = fine
    found = [(face, behind + ((face, ()),)), (face,), fine + ((),), (face, list(behind)), [face, behind],
             (bool(face), behind) if face < 2 else (None, behind)]
    if len(behind) > 1:
        found.extend([(face, behind[::-1]), (face, behind[1:] + behind[:1])])
    if behind:
        found.extend([(face, behind[1:]), (face, behind + behind[:1]), (face, ())])
        found.extend((face, (item,) + behind[1:]) for item in small_faults(body, behind[0]))
    return found
