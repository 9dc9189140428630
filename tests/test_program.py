"""The whole program: along drawn scripts the functions of all modules agree with one another."""

import random
import unittest
from fractions import Fraction

from huesandrounds.arrows import arrow_sum, count_right, pairing_sum, right_arrows
from huesandrounds.benches import Bench
from huesandrounds.bodies import belts, corners, counts_of, edges, is_body
from huesandrounds.chips import invariants, lasting, low
from huesandrounds.cutting import is_way_down, way_down
from huesandrounds.edgehues import count_edge_hues, is_edge_hues
from huesandrounds.evenlots import count_covers, even_sizes, faces_of, rim
from huesandrounds.exchanging import least_tree
from huesandrounds.facehues import count_face_hues, three_hues, to_edges, to_faces
from huesandrounds.filling import told_back
from huesandrounds.flows import count_flows
from huesandrounds.forms import alike, plain, renumbered
from huesandrounds.lines import pairings, signed_sum
from huesandrounds.nets import net, tree_of
from huesandrounds.pairings import count_pairings, edge_share, hues_borne, pairing_at, pairing_index
from huesandrounds.polynomials import count_ringless, polynomial, value_at
from huesandrounds.prices import cheapest
from huesandrounds.putting import left_out, parts
from huesandrounds.roads import road_walk, walked
from huesandrounds.rounds import (count_rounds, count_through, hues_by, is_round, land_sums, lands, other_round,
                                  round_by, rounds)
from huesandrounds.shares import drop
from huesandrounds.signs import count_signs, hues_of, signs_of
from huesandrounds.squares import is_filled, rectangle, still
from huesandrounds.stands import back, course, done, is_stand
from huesandrounds.streams import is_stream, least_rim, stream
from huesandrounds.tears import bicycles, count_bicycles, edge_kind, is_tear, tear_sizes, zigzags
from huesandrounds.texts import read_body, read_edges, read_hues, read_script, script_text
from huesandrounds.thick import thick_flows
from huesandrounds.trees import count_trees, index_of, is_face_tree, rest, share, tree_at
from huesandrounds.turning import pairing_lots
from huesandrounds.values import Body, Hues
from huesandrounds.walks import corner_walk, left_edges
from huesandrounds.weighing import corner_sum
from huesandrounds.wires import flows, sizes
from huesandrounds.wording import body_of, count_words, word
from tests.support import X
from tests.test_stands import fine_steps


def drawn_course(seed, steps):
    """A script that is drawn step by step, and the stands along it, with more cuts than healings."""
    dice = random.Random(seed)
    stand = X
    script = []
    for _ in range(steps):
        fit = fine_steps(stand)
        word_of_step = dice.choice(sorted({step[0] for step in fit} | {"cut"} & {step[0] for step in fit}))
        if len(stand[0]) < 7 and dice.random() < 0.4:
            word_of_step = "cut"
        step = dice.choice([step for step in fit if step[0] == word_of_step])
        script.append(step)
        stand = done(stand, step)
    return tuple(script)


def some_stands():
    """The stands along drawn scripts, those of unlike bodies alone."""
    met = {}
    for seed in range(12):
        for stand in course(X, drawn_course(seed, 12)):
            met.setdefault(stand[0], stand)
    return list(met.values())


STANDS = some_stands()


class Program(unittest.TestCase):
    def test_stands_are_many(self):
        self.assertGreater(len(STANDS), 20)
        self.assertGreater(len({len(stand[0]) for stand in STANDS}), 4)
        self.assertTrue(all(is_stand(stand) for stand in STANDS))

    def test_bodies(self):
        for body, *_ in STANDS:
            self.assertEqual((len(edges(body)), len(corners(body))), (3 * len(body) - 6, 2 * len(body) - 4))
            self.assertEqual(sum(many * (3 - at) for at, many in enumerate(counts_of(body))), 12)
            self.assertTrue(is_way_down(body, way_down(body)))
            self.assertTrue(alike(body, renumbered(body, *edges(body)[-1], -1)))
            self.assertEqual(read_body(str(Body(*body))), body)
            self.assertEqual(sum(len(part) - 3 for part in parts(body)), len(body) - 3)
            self.assertEqual(len(parts(body)) == 1, belts(body) == [])
            self.assertTrue(all(is_body(part) for part in parts(body)))

    def test_one_number_counts_hues_of_all_kinds(self):
        for body, *_ in STANDS:
            many = count_edge_hues(body)
            self.assertEqual(many, 3 * count_signs(body))
            self.assertEqual(many, count_covers(body))
            self.assertEqual(many, sum(hues_borne(body, pairing) for pairing in pairings(body)))
            for pairing in pairings(body)[::3]:
                self.assertEqual(signed_sum(body, pairing, 3), many)
            self.assertEqual(corner_sum(body, ((0, 1),) * len(edges(body))), 2 if three_hues(body) else 0)
            if len(body) <= 10:
                self.assertEqual(4 * many, count_face_hues(body, 4))
                self.assertEqual(count_flows(body, 4), many)
                self.assertEqual(value_at(body, 4), 4 * many)
                self.assertEqual(Body(*body)(4), 4 * many)
                self.assertEqual(count_ringless(body), abs(value_at(body, -1)))
                self.assertEqual((polynomial(body)[0], polynomial(body)[-1]), (0, 1))

    def test_hues_of_stands(self):
        for body, hues, _, _ in STANDS:
            self.assertEqual(to_edges(body, to_faces(body, hues, 2)), hues)
            self.assertEqual(hues_of(body, signs_of(body, hues), hues[0]), hues)
            self.assertEqual(read_hues(body, str(Hues(body, *hues))), hues)
            for hue in range(3):
                lot = tuple(edge for edge, item in zip(edges(body), hues) if item != hue)
                self.assertEqual(rim(body, faces_of(body, lot)), lot)

    def test_rounds(self):
        for body, _, tour, _ in STANDS:
            self.assertEqual(len(rounds(body)), count_rounds(body))
            for edge in edges(body)[::4]:
                self.assertEqual(count_through(body, edge) % 2, 0)
            for corner in corners(body)[::5]:
                self.assertEqual(sum(left_out(body, corner)), count_rounds(body))
            one, other = lands(body, tour)
            self.assertEqual(round_by(body, one), tour)
            self.assertEqual(land_sums(body, one), land_sums(body, other)[::-1])
            self.assertEqual(len(set(land_sums(body, one))), 1)
            self.assertEqual(rim(body, other), tour)
            self.assertEqual([len(lot) + 1 for lot in left_edges(body, tour)], [len(one), len(other)])
            self.assertTrue(is_edge_hues(body, hues_by(body, tour)))
            edge = tour[-1]
            self.assertIn(edge, other_round(body, tour, edge))
            corner = [item for item in corners(body) if set(edge) <= set(item)][0]
            there = walked(body, tour, edge, corner)
            self.assertEqual(walked(body, there, edge, corner), tour)
            self.assertEqual(road_walk(body, there, edge, corner), road_walk(body, tour, edge, corner)[::-1])
            self.assertEqual(len(corner_walk(body, tour, corner, edge)), len(corners(body)))
            self.assertEqual(body_of(word(body, tour, corner, edge)), plain(body))
            self.assertEqual(count_words(body) % 2, 0)

    def test_pairings(self):
        for body, *_ in STANDS:
            many = count_pairings(body)
            weights = tuple(range(-3, len(edges(body)) - 3))
            self.assertIn(arrow_sum(body, right_arrows(body), weights),
                          (pairing_sum(body, weights), -pairing_sum(body, weights)))
            self.assertEqual(count_right(body), 2 ** (2 * len(body) - 5))
            self.assertEqual(pairing_index(body, pairing_at(body, many - 1)), many - 1)
            a, b, c = corners(body)[-1]
            shares = [Fraction(*edge_share(body, edge)) for edge in ((a, b), (a, c), (b, c))]
            self.assertEqual(sum(shares), 1)
            self.assertTrue(three_hues(body) is None or pairing_lots(body) == 1)

    def test_trees(self):
        for body, _, _, tree in STANDS:
            many = count_trees(body, "corners")
            self.assertEqual(many, count_trees(body, "faces"))
            self.assertTrue(is_face_tree(body, rest(body, tree)))
            self.assertEqual(tree_at(body, index_of(body, tree)), tree)
            self.assertEqual(tree_of(body, net(body, tree, 1)), tree)
            self.assertEqual(sum(Fraction(*share(body, edge)) for edge in edges(body)), 2 * len(body) - 5)
            for on in ("corners", "faces"):
                worth = 1
                for item in invariants(body, on):
                    worth *= item
                self.assertEqual(worth, many)
            prices = tuple(0 if edge in tree else 1 for edge in edges(body))
            self.assertEqual(least_tree(body, prices), tree)
            load = tuple(range(len(body)))
            self.assertEqual(low(body, "faces", low(body, "faces", load)), low(body, "faces", load))
            self.assertEqual(lasting(body, "faces", low(body, "faces", load)), lasting(body, "faces", load))
            one, other = [corner for corner in corners(body) if set(edges(body)[0]) <= set(corner)]
            # What an edge lets through alone is the share of trees that have it.
            self.assertEqual(drop(body, one, other), share(body, edges(body)[0]))

    def test_lots(self):
        for body, *_ in STANDS:
            many = count_bicycles(body)
            self.assertEqual(many, 2 ** (len(zigzags(body)) - 1))
            self.assertEqual(many, 2 ** sum(item % 2 == 0 for item in invariants(body, "corners")))
            self.assertEqual(len(bicycles(body)), many)
            self.assertEqual(sum(even_sizes(body)) * sum(tear_sizes(body)), 2 ** len(edges(body)))
            self.assertEqual(is_tear(body, tuple(edges(body))), three_hues(body) is not None)
            for edge in edges(body)[::6]:
                told = any(edge in bike for bike in bicycles(body))
                self.assertEqual(edge_kind(body, edge) == "both", told)

    def test_flows(self):
        for body, *_ in STANDS:
            for gap in edges(body)[::5]:
                row = flows(body, gap)
                width, height = sizes(body, gap)
                self.assertEqual(width + height, count_trees(body, "corners"))
                self.assertEqual(thick_flows(body, gap, (1,) * len(row)), row)
                filled = rectangle(body, gap)
                self.assertTrue(is_filled(filled))
                both = told_back(filled)
                self.assertTrue(both is None or rectangle(*both) == filled)
                self.assertTrue(both is None or still(body, gap) or alike(both[0], body))
                inner = tuple(0 if edge == gap else item for edge, item in zip(edges(body), row))
                prices = tuple(map(abs, inner))
                self.assertTrue(is_stream(body, prices, *gap, inner))
                self.assertEqual(least_rim(body, prices, *gap)[0], height)
                self.assertTrue(is_stream(body, prices, *gap, stream(body, prices, *gap)))

    def test_prices(self):
        for body, _, tour, _ in STANDS:
            prices = tuple(0 if edge in tour else 1 for edge in edges(body))
            self.assertEqual(cheapest(body, prices), (0, tour))


class Benches(unittest.TestCase):
    def test_led_by_texts(self):
        for seed in range(12):
            script = drawn_course(seed, 12)
            self.assertEqual(read_script(script_text(script)), script)
            bench, other = Bench(X), Bench(X)
            bench += script
            for step in script:
                other.do(step)
            self.assertEqual(bench, other)
            self.assertEqual(bench.log, other.log)
            self.assertEqual(bench.stand, course(X, script)[-1])
            self.assertEqual(to_edges(bench.body, bench.faces), bench.hues)
            self.assertEqual(signs_of(bench.body, bench.hues), bench.signs)
            self.assertEqual(sorted(bench.tour + bench.pairing), edges(bench.body))
            self.assertTrue(is_round(bench.body, bench.tour))
            self.assertEqual(read_edges(bench.body, " ".join(f"{a}-{b}" for a, b in bench.tree)), bench.tree)
            for _ in script:
                other.undo()
            bench.undo()
            self.assertEqual((bench.stand, other.stand), (X, X))

    def test_led_back(self):
        for seed in range(12):
            stand = X
            for step in drawn_course(seed, 12):
                ahead = done(stand, step)
                undone = back(stand, step)
                if undone is not None:
                    self.assertEqual(done(ahead, undone), stand)
                stand = ahead

    def test_values_go_the_same_ways(self):
        for seed in range(12):
            stand = X
            value = Hues(X[0], *X[1])
            body = Body(*X[0])
            for step in drawn_course(seed, 12):
                stand = done(stand, step)
                if step[0] in ("exchange", "rename"):
                    value ^= step
                if step[0] == "cut":
                    value = value + step[1]
                    body ^= (step[1], -1)
                if step[0] == "heal":
                    value = value - step[1]
                    body = body - (step[1], -1)
                if step[0] == "paint":
                    value = Hues(*stand[:1], *stand[1])
                self.assertEqual((value.body, value.source), stand[:2])
                self.assertEqual(body.source, stand[0])
