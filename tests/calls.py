"""All functions of the interface, with right arguments, and with wrong values for each argument.

Kinds of arguments are words. One with a question mark ahead takes any value: the function tells False of wrong ones.
"""

import importlib

from huesandrounds import errors
from huesandrounds.allowed import denial
from huesandrounds.arrows import right_arrows
from huesandrounds.benches import Bench
from huesandrounds.bodies import belts, corners, edges
from huesandrounds.cutting import seams, way_down
from huesandrounds.evenlots import rim
from huesandrounds.facehues import first_face_hues, to_edges
from huesandrounds.flows import flow_of
from huesandrounds.exchanging import exchanges
from huesandrounds.lines import pairings
from huesandrounds.nets import net
from huesandrounds.roads import ends
from huesandrounds.rounds import lands, rounds
from huesandrounds.signs import signs_of
from huesandrounds.squares import rectangle
from huesandrounds.streams import stream
from huesandrounds.tears import tear
from huesandrounds.texts import body_text, edges_text, face_text, hues_text, script_text, signs_text
from huesandrounds.trees import count_trees, rest, tree_at
from huesandrounds.turning import turnable
from huesandrounds.values import Body, Hues
from huesandrounds.wires import flows
from huesandrounds.wording import word
from tests.support import F, K, P, Q, bent, deep, odd_integers, odd_values


class Call:
    """A function, the kinds of its arguments, how right ones come of a body, and its limit of faces.

    Where no right arguments come of a body, `make` returns None.
    """

    def __init__(self, place, kinds, make, limit=None, bodies=(F, K)):
        self.module, self.name = place.split(".")
        self.kinds = kinds.split()
        self.make = make
        self.limit = limit
        self.bodies = bodies
        self.run = getattr(importlib.import_module(f"huesandrounds.{self.module}"), self.name)


ERRORS = {
    "body": errors.InvalidBody, "face": errors.InvalidFace, "near": errors.InvalidFace,
    "turning": errors.InvalidTurning, "edge": errors.InvalidEdge, "corner": errors.InvalidCorner,
    "spot": errors.InvalidSpot, "seam": errors.InvalidSeam, "hues": errors.InvalidHues, "hue2": errors.InvalidHue,
    "hue3": errors.InvalidHue, "exchange": errors.InvalidHue, "repaint": errors.InvalidHue,
    "unlike": errors.InvalidHue, "face_hues": errors.InvalidFaceHues, "small": errors.InvalidNumber,
    "colours": errors.InvalidNumber, "signed": errors.InvalidNumber, "golden": errors.InvalidNumber,
    "many": errors.InvalidNumber, "allowed": errors.InvalidAllowed, "many_hues": errors.InvalidFaceHues,
    "many_hue": errors.InvalidHue, "flow": errors.InvalidFlow, "signs": errors.InvalidSigns,
    "pairing": errors.InvalidPairing, "drawing": errors.InvalidDrawing, "arrows": errors.InvalidArrows,
    "right": errors.InvalidArrows, "weights": errors.InvalidWeights, "index": errors.InvalidIndex,
    "tour": errors.InvalidTour, "tour_edge": errors.InvalidEdge, "land": errors.InvalidLand,
    "walk_edge": errors.InvalidEdge, "word": errors.InvalidWord, "road": errors.InvalidRoad,
    "road_end": errors.InvalidCorner, "edge_end": errors.InvalidCorner, "prices": errors.InvalidPrices,
    "dear": errors.InvalidNumber, "facts": errors.InvalidFacts, "tree": errors.InvalidTree, "web": errors.InvalidWeb,
    "some": errors.InvalidEdges, "tree_index": errors.InvalidNumber, "swap": errors.InvalidExchange,
    "rest_edge": errors.InvalidEdge, "net": errors.InvalidNet, "load": errors.InvalidLoad,
    "even_load": errors.InvalidLoad, "pile": errors.InvalidPile, "place": errors.InvalidNumber,
    "moves": errors.InvalidMoves, "thick": errors.InvalidThick, "filled": errors.InvalidFilled,
    "faces": errors.InvalidFaces, "even": errors.InvalidEven, "even_place": errors.InvalidNumber,
    "corners": errors.InvalidCorners, "tear": errors.InvalidTear, "bonds": errors.InvalidBonds,
    "half_bonds": errors.InvalidBonds, "other_face": errors.InvalidFace, "belt": errors.InvalidBelt,
    "sides": errors.InvalidSides, "great_sides": errors.InvalidSides, "modulus": errors.InvalidNumber,
    "edge_facts": errors.InvalidFacts, "body_facts": errors.InvalidFacts, "text": errors.InvalidText,
    "stand": errors.InvalidStand, "step": errors.InvalidStep, "script": errors.InvalidScript,
}


def hues_on(body):
    return to_edges(body, first_face_hues(body))


def on_edge(body):
    """Arguments for what takes edge hues, an edge, and another hue than it has."""
    hues = hues_on(body)
    return (body, hues, edges(body)[1], (hues[1] + 1) % 3)


def signs_on(body):
    return signs_of(body, hues_on(body))


def full(body):
    return ((0, 1, 2, 3),) * len(body)


def two(body):
    return ((0, 1),) * len(body)


def on_face(body):
    """Arguments for what takes face hues, a face, and another hue than it has."""
    face_hues = first_face_hues(body)
    return (body, face_hues, 1, (face_hues[1] + 2) % 4)


def turned(body):
    """A pairing and a face that can be turned in it."""
    found = [(body, row, face) for row in pairings(body) for face in turnable(body, row)]
    return found[-1] if found else None


def walk_of(body):
    """A round, a corner, and an edge of the round there."""
    tour = rounds(body)[-1]
    corner = corners(body)[-2]
    return (body, tour, corner, [edge for edge in tour if set(edge) <= set(corner)][-1])


def end_of(body):
    """A round, one of its edges, and a corner at an end of it."""
    tour = rounds(body)[0]
    return (body, tour, tour[1], [corner for corner in corners(body) if set(tour[1]) <= set(corner)][-1])


def road_on(body):
    return rounds(body)[-1][1:]


def cut_round(body):
    """A round of a body with a face of three sides, and this face."""
    threes = [face for face, ring in enumerate(body) if len(ring) == 3]
    return (body, rounds(body)[-1], threes[-1]) if threes and len(body) > 4 else None


def first_tree(body):
    return tree_at(body, 0)


def last_tree(body):
    return tree_at(body, count_trees(body, "corners") - 1)


def load_on(body, on):
    """The greatest and the least number of chips by turns."""
    return (10 ** 9, -10 ** 9, 7, 0) * 3 if on == "faces" and len(body) == 12 else tuple(
        (10 ** 9, -10 ** 9, 7, 0)[at % 4] for at in range(len(body) if on == "faces" else len(corners(body))))


def even_load_on(body, on):
    many = len(body) if on == "faces" else len(corners(body))
    return (10 ** 9, -10 ** 9) + (0,) * (many - 2)


def thick_on(body):
    return tuple(1 + at % 20 for at in range(len(edges(body))))


def filled_by(body):
    return (rectangle(body, edges(body)[-1]),)


def a_rim(body):
    return rim(body, (1, len(body) - 1))


def a_tear(body):
    return tear(body, tuple(corners(body)[1:3]))


def bonds_on(body):
    return tuple((1000 - at, 3 * at - 1000) for at in range(len(edges(body))))


def between_faces(body):
    """Arguments for what takes prices and two unlike faces."""
    return (body, (1,) * len(edges(body)), len(body) - 1, 0)


def a_belt(body):
    return (body, belts(body)[-1]) if belts(body) else None


def stand_on(body):
    return (body, hues_on(body), rounds(body)[0], first_tree(body))


SCRIPT = (("rename", (1, 2, 0)), ("paint",), ("cut", (0, 1, 2)), ("exchange", (0, 1), 1), ("trace", 2))


def edge_facts(body):
    return tuple(zip(edges(body)[:5], hues_on(body))) + ((edges(body)[0], 2),)


def some_facts(body):
    return ((0, 1, True), (1, 2, False), (0, 1, True))


CALLS = [
    Call("bodies.is_body", "?body", lambda body: (body,)),
    Call("bodies.edges", "body", lambda body: (body,)),
    Call("bodies.corners", "body", lambda body: (body,)),
    Call("bodies.counts_of", "body", lambda body: (body,)),
    Call("bodies.belts", "body", lambda body: (body,)),
    Call("cutting.spots", "body", lambda body: (body,)),
    Call("cutting.seams", "body", lambda body: (body,)),
    Call("cutting.cut", "body spot", lambda body: (body, (corners(body)[1], -1))),
    Call("cutting.healed", "body seam", lambda body: (body, seams(body)[-1]), bodies=(K,)),
    Call("cutting.way_down", "body", lambda body: (body,)),
    Call("cutting.is_way_down", "body ?way", lambda body: (body, way_down(body)), bodies=(K,)),
    Call("forms.renumbered", "body face near turning", lambda body: (body, 1, body[1][2], -1)),
    Call("forms.plain", "body", lambda body: (body,)),
    Call("forms.mirrored", "body", lambda body: (body,)),
    Call("forms.alike", "body body", lambda body: (body, body[:])),
    Call("forms.own_turns", "body", lambda body: (body,)),
    Call("forms.is_own_mirror", "body", lambda body: (body,)),
    Call("forms.bodies", "small", lambda body: (min(len(body), 7),)),
    Call("edgehues.is_edge_hues", "body ?hues", lambda body: (body, hues_on(body))),
    Call("edgehues.count_edge_hues", "body", lambda body: (body,)),
    Call("edgehues.edge_hues", "body", lambda body: (body,), 9),
    Call("edgehues.chain", "body hues edge exchange", on_edge),
    Call("edgehues.exchanged", "body hues edge exchange", on_edge),
    Call("edgehues.hue_edges", "body hues hue2", lambda body: (body, hues_on(body), 2)),
    Call("edgehues.hue_rings", "body hues hue2", lambda body: (body, hues_on(body), 0)),
    Call("edgehues.is_perfect", "body hues", lambda body: (body, hues_on(body))),
    Call("edgehues.kinds", "body", lambda body: (body,), 7),
    Call("edgehues.kind_size", "body hues", lambda body: (body, hues_on(body)), 7),
    Call("edgehues.families", "body", lambda body: (body,), 7),
    Call("edgehues.steps", "body hues hues", lambda body: (body, hues_on(body), hues_on(body)[:]), 7),
    Call("facehues.is_face_hues", "body ?face_hues", lambda body: (body, first_face_hues(body))),
    Call("facehues.first_face_hues", "body", lambda body: (body,)),
    Call("facehues.all_face_hues", "body", lambda body: (body,), 8),
    Call("facehues.lots", "body", lambda body: (body,), 10),
    Call("facehues.count_face_hues", "body colours", lambda body: (body, 10 ** 12), 10),
    Call("facehues.to_edges", "body face_hues", lambda body: (body, first_face_hues(body))),
    Call("facehues.to_faces", "body hues hue3", lambda body: (body, hues_on(body), 3)),
    Call("facehues.three_hues", "body", lambda body: (body,)),
    Call("patches.patches", "body face_hues hue3 unlike", lambda body: (body, first_face_hues(body), 3, 0)),
    Call("patches.repainted", "body face_hues face repaint", on_face),
    Call("patches.paint_families", "body", lambda body: (body,), 7),
    Call("polynomials.polynomial", "body", lambda body: (body,), 10),
    Call("polynomials.value_at", "body signed", lambda body: (body, -10 ** 12), 10),
    Call("polynomials.golden_at", "body golden", lambda body: (body, (1000, -1000)), 10),
    Call("polynomials.count_ringless", "body", lambda body: (body,), 10),
    Call("polynomials.count_from", "body face", lambda body: (body, len(body) - 1), 10),
    Call("polynomials.is_ringless", "body ?course", lambda body: (body, (1,) * len(edges(body)))),
    Call("allowed.is_allowed", "body ?allowed", lambda body: (body, full(body))),
    Call("allowed.hues_with", "body allowed", lambda body: (body, full(body))),
    Call("allowed.count_with", "body allowed", lambda body: (body, full(body))),
    Call("allowed.denial", "body allowed", lambda body: (body, ((0, 1),) * len(body))),
    Call("allowed.is_denial", "body allowed ?denial", lambda body: (body, two(body), denial(body, two(body)))),
    Call("flows.is_flow", "body many ?flow", lambda body: (body, 7, flow_of(body, 7, first_face_hues(body)))),
    Call("flows.flow_of", "body many many_hues", lambda body: (body, 10 ** 12, first_face_hues(body))),
    Call("flows.hues_by_flow", "body many flow many_hue",
         lambda body: (body, 7, flow_of(body, 7, first_face_hues(body)), 6)),
    Call("flows.count_flows", "body many", lambda body: (body, 10 ** 12), 10),
    Call("signs.is_signs", "body ?signs", lambda body: (body, signs_on(body))),
    Call("signs.count_signs", "body", lambda body: (body,)),
    Call("signs.signs_of", "body hues", lambda body: (body, hues_on(body))),
    Call("signs.hues_of", "body signs hue2", lambda body: (body, signs_on(body), 2)),
    Call("signs.all_signs", "body", lambda body: (body,), 9),
    Call("signs.face_sums", "body signs", lambda body: (body, signs_on(body))),
    Call("signs.corners_on", "body hues edge exchange", on_edge),
    Call("lines.is_pairing", "body ?pairing", lambda body: (body, pairings(body)[0])),
    Call("lines.pairings", "body", lambda body: (body,)),
    Call("lines.count_lines", "body pairing drawing",
         lambda body: (body, pairings(body)[-1], (1,) * (len(body) - 2))),
    Call("lines.line_sums", "body pairing", lambda body: (body, pairings(body)[-1])),
    Call("lines.signed_sum", "body pairing colours", lambda body: (body, pairings(body)[-1], 10 ** 12)),
    Call("arrows.are_arrows", "body ?arrows", lambda body: (body, right_arrows(body))),
    Call("arrows.are_right", "body ?right", lambda body: (body, right_arrows(body))),
    Call("arrows.right_arrows", "body", lambda body: (body,)),
    Call("arrows.count_right", "body", lambda body: (body,)),
    Call("arrows.along", "body arrows", lambda body: (body, (-1,) * len(edges(body)))),
    Call("arrows.turned_at", "body arrows corner", lambda body: (body, right_arrows(body), corners(body)[0])),
    Call("arrows.between", "body right right", lambda body: (body, right_arrows(body), right_arrows(body)[:])),
    Call("arrows.pairing_sign", "body arrows pairing", lambda body: (body, right_arrows(body), pairings(body)[0])),
    Call("arrows.arrow_sum", "body arrows weights",
         lambda body: (body, right_arrows(body), (10 ** 6,) * len(edges(body)))),
    Call("arrows.pairing_sum", "body weights", lambda body: (body, (-10 ** 6,) * len(edges(body)))),
    Call("pairings.count_pairings", "body", lambda body: (body,)),
    Call("pairings.edge_share", "body edge", lambda body: (body, edges(body)[-1])),
    Call("pairings.pairing_at", "body index", lambda body: (body, len(pairings(body)) - 1)),
    Call("pairings.pairing_index", "body pairing", lambda body: (body, pairings(body)[-1])),
    Call("pairings.pairings_at", "body corner", lambda body: (body, corners(body)[-1])),
    Call("pairings.rings_left", "body pairing", lambda body: (body, pairings(body)[-1])),
    Call("pairings.hues_borne", "body pairing", lambda body: (body, pairings(body)[-1])),
    Call("pairings.pairings_of", "body hues", lambda body: (body, hues_on(body))),
    Call("turning.turnable", "body pairing", lambda body: (body, pairings(body)[0])),
    Call("turning.face_turned", "body pairing face", turned, bodies=(P, K)),
    Call("turning.pairing_lots", "body", lambda body: (body,)),
    Call("turning.lot_of", "body pairing", lambda body: (body, pairings(body)[0])),
    Call("turning.turns_between", "body pairing pairing", lambda body: (body, pairings(body)[0], pairings(body)[-1])),
    Call("rounds.is_round", "body ?tour", lambda body: (body, rounds(body)[0])),
    Call("rounds.rounds", "body", lambda body: (body,)),
    Call("rounds.count_rounds", "body", lambda body: (body,)),
    Call("rounds.count_through", "body edge", lambda body: (body, edges(body)[-1])),
    Call("rounds.other_round", "body tour tour_edge", lambda body: end_of(body)[:3]),
    Call("rounds.lands", "body tour", lambda body: (body, rounds(body)[0])),
    Call("rounds.round_by", "body land", lambda body: (body, lands(body, rounds(body)[0])[1])),
    Call("rounds.land_sums", "body land", lambda body: (body, tuple(range(1, len(body))))),
    Call("rounds.hues_by", "body tour", lambda body: (body, rounds(body)[-1])),
    Call("walks.corner_walk", "body tour corner walk_edge", walk_of),
    Call("walks.left_edges", "body tour", lambda body: (body, rounds(body)[-1])),
    Call("walks.carried", "body tour corner", lambda body: walk_of(body)[:3]),
    Call("walks.carried_back", "body tour face", cut_round, bodies=(P, Q)),
    Call("wording.is_word", "?word", lambda body: (word(*walk_of(body)),)),
    Call("wording.word", "body tour corner walk_edge", walk_of),
    Call("wording.body_of", "word", lambda body: (word(*walk_of(body)),)),
    Call("wording.count_words", "body", lambda body: (body,)),
    Call("wording.words", "body", lambda body: (body,), 7),
    Call("roads.is_road", "body ?road", lambda body: (body, road_on(body))),
    Call("roads.ends", "body road", lambda body: (body, road_on(body))),
    Call("roads.closed", "body road", lambda body: (body, road_on(body))),
    Call("roads.turns", "body road road_end", lambda body: (body, road_on(body), ends(body, road_on(body))[1])),
    Call("roads.count_roads", "body corner corner", lambda body: (body, corners(body)[0], corners(body)[2]), 8),
    Call("roads.roads", "body corner", lambda body: (body, corners(body)[-1]), 8),
    Call("roads.road_walk", "body tour tour_edge edge_end", end_of),
    Call("roads.walked", "body tour tour_edge edge_end", end_of),
    Call("roads.partners", "body edge edge_end", lambda body: (body,) + end_of(body)[2:], 8),
    Call("prices.cost", "body tour prices", lambda body: (body, rounds(body)[0], (10 ** 20,) * len(edges(body)))),
    Call("prices.cheapest", "body prices", lambda body: (body, tuple(range(len(edges(body)))))),
    Call("prices.dearest", "body prices", lambda body: (body, (0,) * len(edges(body)))),
    Call("prices.is_paper", "body prices dear ?paper",
         lambda body: (body, (3,) * len(edges(body)), 6 * len(body) - 12, ("sum",))),
    Call("prices.paper", "body prices", lambda body: (body, tuple(range(len(edges(body))))), 8),
    Call("landfacts.beside", "body tour", lambda body: (body, rounds(body)[-1])),
    Call("landfacts.hue_rounds", "body hues", lambda body: (body, hues_on(body))),
    Call("landfacts.rounds_by_lands", "body facts", lambda body: (body, some_facts(body)), 8),
    Call("landfacts.surely_same", "body facts face face", lambda body: (body, some_facts(body), 3, 3), 8),
    Call("trees.is_edge_tree", "body ?tree", lambda body: (body, first_tree(body))),
    Call("trees.is_face_tree", "body ?face_tree", lambda body: (body, rest(body, last_tree(body)))),
    Call("trees.rest", "body some", lambda body: (body, tuple(edges(body)[::2]))),
    Call("trees.count_trees", "body web", lambda body: (body, "faces")),
    Call("trees.trees_with", "body some some",
         lambda body: (body, tuple(edges(body)[::3]), tuple(edges(body)[1::4]))),
    Call("trees.share", "body edge", lambda body: (body, edges(body)[-1])),
    Call("trees.tree_at", "body tree_index", lambda body: (body, count_trees(body, "corners") - 1)),
    Call("trees.index_of", "body tree", lambda body: (body, last_tree(body))),
    Call("trees.tree_sum", "body weights", lambda body: (body, (-10 ** 6,) * len(edges(body)))),
    Call("exchanging.exchanges", "body tree", lambda body: (body, first_tree(body))),
    Call("exchanging.exchanged", "body tree swap",
         lambda body: (body, last_tree(body), exchanges(body, last_tree(body))[-1])),
    Call("exchanging.ring_of", "body tree rest_edge",
         lambda body: (body, first_tree(body), rest(body, first_tree(body))[-1])),
    Call("exchanging.way_between", "body tree tree", lambda body: (body, first_tree(body), last_tree(body))),
    Call("exchanging.least_tree", "body prices", lambda body: (body, tuple(range(len(edges(body)))))),
    Call("exchanging.better", "body tree prices",
         lambda body: (body, first_tree(body), (10 ** 20,) * 3 + (0,) * (len(edges(body)) - 3))),
    Call("nets.rim", "body tree", lambda body: (body, last_tree(body))),
    Call("nets.net", "body tree face", lambda body: (body, last_tree(body), 2)),
    Call("nets.tree_of", "body net", lambda body: (body, net(body, first_tree(body), 1))),
    Call("nets.like_nets", "body tree tree", lambda body: (body, first_tree(body), last_tree(body))),
    Call("nets.count_nets", "body", lambda body: (body,), 6),
    Call("chips.is_load", "body web ?load", lambda body: (body, "faces", load_on(body, "faces"))),
    Call("chips.sent", "body web load place",
         lambda body: (body, "corners", load_on(body, "corners"), len(corners(body)) - 1)),
    Call("chips.invariants", "body web", lambda body: (body, "corners")),
    Call("chips.alike_loads", "body web load load",
         lambda body: (body, "corners", load_on(body, "corners"), load_on(body, "corners")[::-1])),
    Call("chips.low", "body web load", lambda body: (body, "corners", load_on(body, "corners"))),
    Call("chips.order_of", "body web even_load", lambda body: (body, "faces", even_load_on(body, "faces"))),
    Call("chips.settled", "body web pile", lambda body: (body, "corners", (60,) * (len(corners(body)) - 1))),
    Call("chips.is_lasting", "body web pile", lambda body: (body, "corners", (2,) * (len(corners(body)) - 1))),
    Call("chips.lasting", "body web load", lambda body: (body, "faces", load_on(body, "faces"))),
    Call("chips.neutral", "body web", lambda body: (body, "corners")),
    Call("carrying.moved", "body moves", lambda body: (body, (10 ** 6, -10 ** 6, 5) * (len(body) - 2))),
    Call("carrying.carried", "body even_load", lambda body: (body, even_load_on(body, "corners"))),
    Call("carrying.carried_back", "body even_load", lambda body: (body, even_load_on(body, "faces"))),
    Call("wires.sizes", "body edge", lambda body: (body, edges(body)[-1])),
    Call("wires.flows", "body edge", lambda body: (body, edges(body)[2])),
    Call("wires.levels", "body edge", lambda body: (body, edges(body)[1])),
    Call("wires.places", "body edge", lambda body: (body, edges(body)[0])),
    Call("wires.measure", "body edge", lambda body: (body, edges(body)[-2])),
    Call("wires.least_flows", "body edge", lambda body: (body, edges(body)[-1])),
    Call("wires.are_flows", "body edge ?flows", lambda body: (body, edges(body)[3], flows(body, edges(body)[3]))),
    Call("shares.drop", "body corner corner", lambda body: (body, corners(body)[0], corners(body)[-1])),
    Call("thick.thick_sizes", "body edge thick", lambda body: (body, edges(body)[-1], thick_on(body))),
    Call("thick.thick_flows", "body edge thick", lambda body: (body, edges(body)[0], (20,) * len(edges(body)))),
    Call("thick.thick_levels", "body edge thick", lambda body: (body, edges(body)[2], (1,) * len(edges(body)))),
    Call("thick.tiled", "body edge thick", lambda body: (body, edges(body)[1], thick_on(body))),
    Call("squares.still", "body edge", lambda body: (body, edges(body)[0])),
    Call("squares.rectangle", "body edge", lambda body: (body, edges(body)[-1])),
    Call("squares.perfect_gaps", "body", lambda body: (body,)),
    Call("squares.is_filled", "?filled", filled_by),
    Call("squares.is_perfect", "filled", filled_by),
    Call("squares.crosses", "filled", filled_by),
    Call("squares.turned", "filled", filled_by),
    Call("filling.level_lines", "filled", filled_by),
    Call("filling.upright_lines", "filled", filled_by),
    Call("filling.told_back", "filled", filled_by),
    Call("evenlots.is_even", "body ?even", lambda body: (body, a_rim(body))),
    Call("evenlots.rim", "body faces", lambda body: (body, (1, len(body) - 1))),
    Call("evenlots.faces_of", "body even", lambda body: (body, a_rim(body))),
    Call("evenlots.rings_of", "body even", lambda body: (body, a_rim(body))),
    Call("evenlots.even_lots", "body", lambda body: (body,), 9),
    Call("evenlots.even_at", "body even_place", lambda body: (body, 2 ** (len(body) - 1) - 1), 9),
    Call("evenlots.even_index", "body even", lambda body: (body, a_rim(body)), 9),
    Call("evenlots.even_sizes", "body", lambda body: (body,)),
    Call("evenlots.count_covers", "body", lambda body: (body,)),
    Call("tears.is_tear", "body ?tear", lambda body: (body, a_tear(body))),
    Call("tears.tear", "body corners", lambda body: (body, tuple(corners(body)))),
    Call("tears.corners_of", "body tear", lambda body: (body, a_tear(body))),
    Call("tears.tear_sizes", "body", lambda body: (body,)),
    Call("tears.split", "body some", lambda body: (body, tuple(edges(body)))),
    Call("tears.count_bicycles", "body", lambda body: (body,)),
    Call("tears.bicycles", "body", lambda body: (body,)),
    Call("tears.zigzags", "body", lambda body: (body,)),
    Call("tears.edge_kind", "body edge", lambda body: (body, edges(body)[-1])),
    Call("weighing.corner_sum", "body bonds", lambda body: (body, bonds_on(body))),
    Call("weighing.face_sum", "body bonds", lambda body: (body, ((-1000, 1000),) * len(edges(body)))),
    Call("weighing.turned_bonds", "body half_bonds", lambda body: (body, ((500, -500),) * len(edges(body)))),
    Call("streams.least_rim", "body prices face other_face", between_faces),
    Call("streams.stream", "body prices face other_face", between_faces),
    Call("streams.is_stream", "body prices face other_face ?stream",
         lambda body: between_faces(body) + (stream(*between_faces(body)),)),
    Call("streams.greatest_tear", "body prices", lambda body: (body, (10 ** 20,) * len(edges(body)))),
    Call("putting.put_together", "body corner body corner",
         lambda body: (body, corners(body)[0], body[:], corners(body)[-1])),
    Call("putting.parted", "body belt", a_belt, bodies=(P, Q)),
    Call("putting.left_out", "body corner", lambda body: (body, corners(body)[-1])),
    Call("putting.joined_counts", "body corner body corner",
         lambda body: (body, corners(body)[1], body[:], corners(body)[-2])),
    Call("putting.joined_face_hues", "body body colours", lambda body: (body, body[:], 10 ** 12), 10),
    Call("putting.parts", "body", lambda body: (body,)),
    Call("drums.drum", "sides", lambda body: (len(body) - 2 if len(body) > 4 else 3,)),
    Call("drums.drum_rounds", "great_sides", lambda body: (10 ** 30 - len(body),)),
    Call("drums.drum_edge_hues", "great_sides modulus", lambda body: (10 ** 30 - len(body), 10 ** 12)),
    Call("drums.drum_face_hues", "great_sides colours modulus", lambda body: (10 ** 30, 10 ** 12, 10 ** 12)),
    Call("drums.drum_pairings", "great_sides modulus", lambda body: (10 ** 30 - len(body), 10 ** 12 - 1)),
    Call("drums.drum_trees", "great_sides modulus", lambda body: (10 ** 30 - 1, 10 ** 12)),
    Call("telling.hues_told", "body edge_facts", lambda body: (body, edge_facts(body)), 7),
    Call("telling.surely", "body edge_facts edge", lambda body: (body, edge_facts(body)[:1], edges(body)[-1]), 7),
    Call("telling.fewest_told", "body hues", lambda body: (body, hues_on(body)), 7),
    Call("telling.rounds_told", "body some some",
         lambda body: (body, tuple(edges(body)[::4]), tuple(edges(body)[1::9])), 7),
    Call("telling.pairings_told", "body some some",
         lambda body: (body, tuple(edges(body)[:1]), tuple(edges(body)[1::5])), 7),
    Call("telling.bodies_told", "small body_facts", lambda body: (6, (("belts", 0), ("fours", 6), ("hues", 24)))),
    Call("telling.told_apart", "body body", lambda body: (body, body[:]), 7),
    Call("texts.body_text", "body", lambda body: (body,)),
    Call("texts.hues_text", "body hues", lambda body: (body, hues_on(body))),
    Call("texts.face_text", "body face_hues", lambda body: (body, first_face_hues(body))),
    Call("texts.signs_text", "body signs", lambda body: (body, signs_on(body))),
    Call("texts.edges_text", "body some", lambda body: (body, tuple(edges(body)[::2]))),
    Call("texts.read_body", "text", lambda body: (body_text(body),)),
    Call("texts.read_hues", "body text", lambda body: (body, hues_text(body, hues_on(body)))),
    Call("texts.read_faces", "body text", lambda body: (body, face_text(body, first_face_hues(body)))),
    Call("texts.read_signs", "body text", lambda body: (body, signs_text(body, signs_on(body)))),
    Call("texts.read_edges", "body text", lambda body: (body, edges_text(body, tuple(edges(body))))),
    Call("texts.script_text", "script", lambda body: (SCRIPT,)),
    Call("texts.read_script", "text", lambda body: (script_text(SCRIPT),)),
    Call("stands.is_stand", "?stand", lambda body: (stand_on(body),)),
    Call("stands.is_step", "?step", lambda body: (("graft", (0, 1), (10, 11)),)),
    Call("stands.is_script", "?script", lambda body: (SCRIPT,)),
    Call("stands.done", "stand step", lambda body: (stand_on(body), ("flip", stand_on(body)[2][0]))),
    Call("stands.course", "stand script", lambda body: (stand_on(body), (("rename", (1, 0, 2)),) * 3)),
    Call("stands.back", "stand step", lambda body: (stand_on(body), ("flop", stand_on(body)[2][0]))),
    Call("streams.same_price", "body prices", lambda body: (body, tuple(2 ** at for at in range(len(edges(body))))),
         9),
]

RANGES = {
    "face": lambda args: range(len(args[0])), "near": lambda args: args[0][args[1]], "turning": lambda args: (1, -1),
    "hue2": lambda args: range(3), "hue3": lambda args: range(4), "small": lambda args: range(4, 8),
    "colours": lambda args: range(10 ** 12 + 1),
    "exchange": lambda args: [hue for hue in range(3) if hue != args[1][edges(args[0]).index(args[2])]],
    "repaint": lambda args: [hue for hue in range(4) if hue != args[1][args[2]]],
    "unlike": lambda args: [hue for hue in range(4) if hue != args[2]],
    "signed": lambda args: range(-10 ** 12, 10 ** 12 + 1), "many": lambda args: range(1, 10 ** 12 + 1),
    "tree_index": lambda args: range(count_trees(args[0], "corners")), "place": lambda args: range(len(args[2])),
    "dear": lambda args: range(10 ** 22 + 1), "many_hue": lambda args: range(args[1]),
    "index": lambda args: range(len(pairings(args[0]))),
    "even_place": lambda args: range(2 ** (len(args[0]) - 1)),
    "other_face": lambda args: [face for face in range(len(args[0])) if face != args[2]],
    "sides": lambda args: range(3, 11), "great_sides": lambda args: range(3, 10 ** 30 + 1),
    "modulus": lambda args: range(1, 10 ** 12 + 1),
}

# Further wrong values, of the form of right ones, for the bodies that the tests take.
FALSE_FRIENDS = {
    "body": lambda body: [
        body[::-1], body[:1] + body[2:], tuple(ring[::-1] for ring in body),
        tuple(ring[1:] + ring[:1] for ring in body),
        ((1, 2), (0, 2), (0, 1)), body + body, ((),) * 5, ((1, 2, 3), (0, 2, 3), (0, 1, 3), (0, 1, 2)),
        body[:1] + ((0, 2, 3),) + body[2:], [list(ring) for ring in body], tuple(list(ring) for ring in body)],
    "hues": lambda body: [(0,) * len(hues_on(body)), hues_on(body)[1:] + (3,), hues_on(body)[:-1] + (-1,)],
    "face_hues": lambda body: [
        (0,) * len(body), tuple(range(len(body)))[::-1] if len(body) > 4 else (0, 1, 2, 4), (-1,) + (0, 1, 2) * 3],
    "edge": lambda body: not_tied(body) + [
        (1, 0), (0, 0), (0, len(body)), (len(body), len(body) + 1), (len(body) - 1, len(body)), (-1, 0), (0, 1, 2),
        [0, 1]],
    "corner": lambda body: [(0, 1), (0, 0, 1), corners(body)[0][::-1], (0, 1, len(body)), list(corners(body)[0])],
    "spot": lambda body: [
        ((0, 1, 2, 3), -1), ((0,), -1), ((1, 0), -1), (corners(body)[0][::-1], -1), (corners(body)[0], -2),
        ((0, 1), 0), (corners(body)[0], len(body)), (list(corners(body)[0]), -1), (corners(body)[0],),
        (corners(body)[0], None), (corners(body)[0], True), corners(body)[0], (deep(tuple, 90), -1), ((True, 2), -1)],
    "seam": lambda body: [(0, -2), (-1, -1), (len(body), -1), (0, len(body)), (0, 0), (0, None), (0, True), (0, 1, 2)],
    "golden": lambda body: [(1001, 0), (0, -1001), (0, 1, 2), (1, None), (True, 0), [1, 1]],
    "course": lambda body: [(0,) * len(edges(body)), (1, 2) * (len(edges(body)) // 2), (1, True) * 3, ringed(body)],
    "allowed": lambda body: [
        ((1, 0),) * len(body), ((0, 0),) * len(body), ((0, 4),) * len(body), ((-1, 0),) * len(body),
        ((0, True),) * len(body), ((False,),) * len(body), ([0, 1],) * len(body), (0,) * len(body), full(body) + ((),)],
    "denial": lambda body: list(range(len(body))) + [
        (0, ()), (0, (1,)), (0, (1, 1, 1)), (0, (0, 0)), (0, [1, 1]), (0, 1), (0, (1, 1), 1), ((0, (1, 1)),)],
    "flow": lambda body: [(0,) * len(edges(body)), (7,) * len(edges(body)), (1,) * len(edges(body))],
    "many_hues": lambda body: [(0,) * len(body), (10 ** 12,) + tuple(range(1, len(body))), (-1, 0, 1, 2, 3, 4)],
    "signs": lambda body: [
        (0,) * len(corners(body)), (2, -2) * (len(corners(body)) // 2), signs_on(body)[1:] + (-signs_on(body)[0],)],
    "pairing": lambda body: [
        pairings(body)[0][::-1], (edges(body)[0],) * (len(body) - 2), tuple(edges(body)[:len(body) - 2]), (0, 1),
        tuple(edges(body)), tuple(edge[::-1] for edge in pairings(body)[0]), pairings(body)[0][:-1] + ((0, 99),)],
    "drawing": lambda body: [(2,) * (len(body) - 2), (1, -1) * (len(body) // 2 - 1), (True,) * (len(body) - 2)],
    "arrows": lambda body: [(0,) * len(edges(body)), (2,) * len(edges(body)), (1,) * len(corners(body)) + (None,)],
    "right": lambda body: [(0,) * len(edges(body)), right_arrows(body)[:-1] + (-right_arrows(body)[-1],)],
    "weights": lambda body: [
        (10 ** 6 + 1,) * len(edges(body)), (0,) * (len(edges(body)) - 1) + (-10 ** 6 - 1,),
        (False,) * len(edges(body))],
    "tour": lambda body: [
        rounds(body)[0][::-1], tuple(edges(body)), pairings(body)[0], rounds(body)[0][:-1] + ((0, 99),),
        tuple(edges(body)[:2 * len(body) - 4]), tuple(edge[::-1] for edge in rounds(body)[0])] + lesser_rings(body),
    "tour_edge": lambda body: FALSE_FRIENDS["edge"](body) + [
        edge for edge in edges(body) if edge not in end_of(body)[1]],
    "walk_edge": lambda body: FALSE_FRIENDS["edge"](body) + [
        edge for edge in edges(body) if edge not in walk_of(body)[1] or not set(edge) <= set(walk_of(body)[2])],
    "land": lambda body: [
        (), tuple(range(len(body))), (0, 0), (1, 0), (0, len(body)), (-1, 0), (True,), (0, True), [0], 0, ((0,),)],
    "road": lambda body: [
        rounds(body)[0], road_on(body)[::-1], tuple(edges(body)[:2 * len(body) - 5]), road_on(body)[1:],
        road_on(body)[:-1] + ((0, 99),)],
    "road_end": lambda body: FALSE_FRIENDS["corner"](body) + [
        corner for corner in corners(body) if corner not in ends(body, road_on(body))],
    "edge_end": lambda body: FALSE_FRIENDS["corner"](body) + [
        corner for corner in corners(body) if not set(end_of(body)[2]) <= set(corner)],
    "prices": lambda body: [
        (-1,) * len(edges(body)), (10 ** 20 + 1,) + (0,) * (len(edges(body)) - 1), (0,) * len(corners(body)),
        (True,) * len(edges(body))],
    "paper": lambda body: [
        ("ring",), ("sum", ()), ("sums",), "sum", ("corner", corners(body)[0]), ("corner",), ["sum"], (["sum"],),
        ("edge", edges(body)[0], ("sum",)), ("edge", edges(body)[0], ("sum",), ("ring",)),
        ("edge", edges(body)[0][::-1], ("sum",), ("sum",)), ("edge", (0, True), ("sum",), ("sum",)),
        ("edge", edges(body)[0], ("edge", edges(body)[0], ("sum",), ("sum",)), ("sum",)),
        ("edge", edges(body)[0], ("sum",), ("sum",), ("sum",)),
        ("edge", edges(body)[0], deep(tuple, 90), deep(tuple, 90))],
    "facts": lambda body: [
        ((1, 0, True),), ((0, 0, True),), ((0, 1, 1),), ((0, 1, None),), ((0, len(body), True),), ((-1, 0, True),),
        ((0, True, True),), ((0, 1),), ((0, 1, True, True),), (0, 1, True), ((0, 1, True),) * 7, [(0, 1, True)]],
    "tree": lambda body: [
        first_tree(body)[::-1], tuple(edges(body)), first_tree(body)[1:], rounds(body)[0],
        rounds(body)[0][:-1] + ((0, 99),),
        rounds(body)[0][:-2] + rounds(body)[0][-1:] * 2, ()] + near_trees(body),
    "face_tree": lambda body: [
        rest(body, first_tree(body))[::-1], rest(body, first_tree(body))[1:], tuple(edges(body)), ()] + [
        rest(body, some) for some in near_trees(body)],
    "some": lambda body: [
        edges(body)[:2], ((0, 2), (0, 1)), ((0, 1), (0, 1)), ((1, 0),), (0, 1), ((0, 1, 2),), ((0, True),),
        ((0, 1), (0, len(body))), tuple(edges(body)[::-1]), "corners", ((0, 1), None), ([0, 1],)],
    "swap": lambda body: [
        ((0, 1), (0, 1)), ((1, 0), (0, 1)), ((0, 1),), (0, 1), ((0, 1), None), [(0, 1), (0, 2)], (None, (0, 1))] + [
        (out, into) for out in edges(body) for into in edges(body)
        if (out, into) not in exchanges(body, last_tree(body))],
    "rest_edge": lambda body: FALSE_FRIENDS["edge"](body) + list(first_tree(body)),
    "net": lambda body: [
        (0, ()), (0, ((0, ()),)), (0,), (0, (), ()), 0, (True, ((2, ()), (3, ()))), (0, ((1, ()), (1, ()), (2, ()))),
        (0, (1, 2, 3)), (0, [(1, ()), (2, ()), (3, ())]), (1,) + net(body, first_tree(body), 0)[1:],
        (0, net(body, first_tree(body), 0)[1][::-1] + (None,)), (0, ((len(body), ()),)), (0, (deep(tuple, 90),) * 3),
        (0, deep(tuple, 90)), (0, list(net(body, first_tree(body), 0)[1]))],
    "load": lambda body: [
        (10 ** 9 + 1,) * len(body), (-10 ** 9 - 1,) * len(corners(body)), (True,) * len(body), (0,) * len(edges(body)),
        (None,) * len(corners(body)), [0] * len(body)],
    "even_load": lambda body: FALSE_FRIENDS["load"](body) + [(1,) * len(body), (1,) * len(corners(body))],
    "pile": lambda body: [
        (61,) * (len(corners(body)) - 1), (-1,) * (len(corners(body)) - 1), (0,) * len(corners(body)),
        (True,) * (len(corners(body)) - 1)],
    "moves": lambda body: [
        (10 ** 6 + 1,) * len(edges(body)), (0,) * (len(edges(body)) - 1) + (-10 ** 6 - 1,),
        (False,) * len(edges(body))],
    "flows": lambda body: [
        (0,) * len(edges(body)), (1,) * len(edges(body)), tuple(2 * item + 1 for item in flows(body, edges(body)[3]))],
    "thick": lambda body: [
        (0,) + (1,) * (len(edges(body)) - 1), (1,) * (len(edges(body)) - 1) + (21,), (True,) * len(edges(body)),
        (-1,) * len(edges(body)), (1,) * len(corners(body)), [1] * len(edges(body)), 1],
    "filled": lambda filled: [
        filled[2], (filled[0] + 1,) + filled[1:], (filled[1] + 1, filled[0], filled[2]), filled[:2] + ((),),
        (1, 1, ((0, 0, True),)), (True, 1, ((0, 0, 1),)), (1, 1, ((0, 0),)), (1, 1, [(0, 0, 1)]), (1, 1, ([0, 0, 1],)),
        (2, 2, ((0, 0, 1), (0, 1, 1), (1, 0, 1))), (2, 1, ((1, 0, 1), (0, 0, 1))), (2, 1, ((0, 0, 1), (0, 0, 1))),
        (0, 0, ((0, 0, 0),)), (2, 2, ((0, 0, 1), (0, 0, 2))), (2, 2, ((-1, 0, 2),)), (2, 2, ((1, 0, 2),)),
        (2, 2, ((0, 0, 0), (0, 0, 2))), (10 ** 12 + 1, 10 ** 12 + 1, ((0, 0, 10 ** 12 + 1),)),
        (41, 1, tuple((at, 0, 1) for at in range(41))), (3, 3, ((0, 0, 2), (1, 1, 2), (2, 0, 1))),
        filled[:2] + (filled[2][::-1],), filled[:2] + (filled[2][1:],), filled[:2] + (filled[2] + filled[2][:1],)],
    "faces": lambda body: [
        (0, 0), (1, 0), (0, len(body)), (-1, 0), (True,), (0, True), [0], 0, ((0,),), (0, None), "faces"],
    "even": lambda body: [
        a_rim(body)[::-1], a_rim(body)[1:], a_rim(body)[:1] * 2, edges(body)[:1], (edges(body)[0],),
        tuple(edges(body)), tear(body, tuple(corners(body)[:1])), tuple(edge[::-1] for edge in a_rim(body)),
        a_rim(body) + ((0, 99),)],
    "corners": lambda body: [
        tuple(corners(body)[::-1]), corners(body), tuple(corners(body)[:1]) * 2, (0, 1, 2), ((0, 1),), ((0, 0, 1),),
        ((0, 1, True),), ((0, 1, len(body)),), (list(corners(body)[0]),), (corners(body)[0][::-1],), ((0, 1, 2, 3),),
        ((2, 3, 4),) if len(body) == 6 else ((1, 2, 4),)],
    "tear": lambda body: [
        a_tear(body)[::-1], a_tear(body)[1:], a_tear(body)[:1] * 2, (edges(body)[1],), a_rim(body)[:-1],
        tuple(edge[::-1] for edge in a_tear(body)), a_tear(body) + ((0, 99),), edges(body)],
    "bonds": lambda body: [
        ((1001, 0),) * len(edges(body)), ((0, -1001),) * len(edges(body)), ((0, True),) * len(edges(body)),
        ([0, 0],) * len(edges(body)), ((0, 0, 0),) * len(edges(body)), (0,) * len(edges(body)), ((0,),), ((0, 0),) * 3,
        [(0, 0)] * len(edges(body)), ((0, None),) * len(edges(body)), ((0, 0),) * (len(edges(body)) + 1)],
    "half_bonds": lambda body: FALSE_FRIENDS["bonds"](body) + [
        ((501, 500),) * len(edges(body)), ((0, 0),) * (len(edges(body)) - 1) + ((-1, 1000),),
        ((500, -501),) + ((0, 0),) * (len(edges(body)) - 1)],
    "stream": lambda body: [
        (2,) * len(edges(body)), tuple(-item for item in stream(*between_faces(body))), [0] * len(edges(body)),
        (0,) * (len(edges(body)) - 1), (False,) * len(edges(body)), (0,) * len(edges(body)) + (0,),
        (1,) + (0,) * (len(edges(body)) - 1), (0.0,) * len(edges(body))],
    "belt": lambda body: corners(body) + [
        (0, 1, 2)[::-1], (1, 3, 2), (3, 2, 1), (1, 2), (1, 2, 3, 4), (1, 2, True), (1, 1, 2), (1, 2, len(body)),
        [1, 2, 3], (0, 1, 4), ((1, 2), (2, 3), (1, 3))],
    "edge_facts": lambda body: [
        (((0, 1), 3),), (((0, 1), -1),), (((0, 1), True),), (((1, 0), 0),), (((0, len(body)), 0),), ((0, 1),),
        (((0, 1),),), (((0, 1), 0, 0),), (((0, 1), 0),) * 7, [((0, 1), 0)], ([(0, 1), 0],), (((0, 1), None),),
        (((0, True), 0),), ((0, 1), 0)],
    "body_facts": lambda faces: [
        (("hue", 0),), (("hues", -1),), (("hues", 1001),), (("hues", True),), (("hues",),), (("hues", 1, 1),),
        (("hues", 6),) * 6, [("hues", 6)], (["hues", 6],), ("hues", 6), ((6, "hues"),), (("sixes", 0),), (("", 0),),
        ((("hues",), 6),), ((None, 6),), (("Hues", 6),), (("hues", "6"),), (("hues ", 6),)],
    "stand": lambda stand: [
        stand[:3], stand + ((),), list(stand), stand[::-1], (stand[0], stand[1], stand[2], stand[2]),
        (stand[0], stand[1], stand[3], stand[3]), (stand[0], stand[1][::-1] + (0,), stand[2], stand[3]),
        (P if len(stand[0]) != 5 else F,) + stand[1:], (stand[0], (0,) * len(stand[1]), stand[2], stand[3]),
        (stand[0], stand[1], stand[2], stand[3][:-1]), (stand[0], stand[1], stand[2][1:], stand[3]),
        (stand[0], stand[1], stand[2], stand[3][::-1]), (Body(*stand[0]),) + stand[1:], Bench(stand),
        (stand[0], Hues(stand[0], *stand[1])) + stand[2:]],
    "step": lambda _: [
        ("paint", ()), ("paints",), (), ("",), "paint", ["paint"], (("paint",),), ("exchange", (0, 1)),
        ("exchange", (0, 1), 3), ("exchange", (0, 1), -1), ("exchange", (0, 1), True), ("exchange", (1, 0), 0),
        ("exchange", (0, 12), 0), ("exchange", (-1, 0), 0), ("exchange", (0, 0), 0), ("exchange", [0, 1], 0),
        ("exchange", (0, 1, 2), 0), ("exchange", 0, 1), ("exchange", (0, 1), 1, 2), ("rename", (0, 1)),
        ("rename", (0, 1, 1)), ("rename", (0, 1, 3)), ("rename", (0, 1, 2, 0)), ("rename", 0, 1, 2), ("rename", 12),
        ("rename", (0, True, 2)), ("rename", [0, 1, 2]), ("rename",), ("flip", (1, 0)), ("flip", (0, True)), ("flip",),
        ("flip", (0, 1), (0, 2)), ("flop", (11, 12)), ("flop", (0, 1, 2)), ("graft", (0, 1)), ("graft", (0, 1), 2),
        ("graft", (0, 1), (1, 0)), ("graft", (1, 0), (0, 1)), ("graft", (0, 1), (0, 1), (0, 1)), ("trace",),
        ("trace", 3), ("trace", -1), ("trace", True), ("trace", (0,)), ("trace", 0, 1), ("cut", (0, 1)),
        ("cut", (0, 1, 12)), ("cut", (1, 0, 2)), ("cut", (0, 0, 1)), ("cut", ((0, 1, 2), -1)), ("cut", [0, 1, 2]),
        ("cut", (0, 1, 2), -1), ("cut",), ("heal", 12), ("heal", -1), ("heal", True), ("heal", (0,)), ("heal", None),
        ("heal", 3, -1), ("heal",), ("Heal", 3), ("heal ", 3), (None, 3), (["heal"], 3), ((), 3), (0, 3),
        (deep(tuple, 90), 3), ("cut", deep(tuple, 90)), ("flip", (deep(tuple, 90),) * 2)],
    "script": lambda script: [
        list(script), script * 3, (("paint",),) * 13, ("paint",), (("paint",), "paint"), (("paint",), ("paints",)),
        (("paint",), None), (["paint"],), ((("paint",),),), "paint", (("exchange", (0, 1), 3),)],
    "way": lambda body: [way_down(body)[::-1] + ((0, 0),), way_down(body)[:-1] + ((0, len(body)),)],
}


def are_numbers(value, length, most):
    if type(value) is not tuple or len(value) != length:
        return False
    return all(type(item) is int and -most <= item <= most for item in value)


def are_hue_rows(value, length):
    if type(value) is not tuple or len(value) != length:
        return False
    return all(type(item) is tuple and item in ((), (0, 1), (0, 1, 2, 3)) for item in value)


def are_facts(value):
    if type(value) is not tuple or len(value) > 6:
        return False
    return all(type(item) is tuple and item in ((0, 1, True), (1, 2, False)) for item in value)


def is_part(value, fine, most):
    """Whether a value is a tuple of some of those items that are right ones, in any order."""
    if type(value) is not tuple or len(value) > most:
        return False
    return all(type(item) is tuple and repr(item) in map(repr, fine) for item in value if not is_great(item))\
        and not any(map(is_great, value))


def is_great(value):
    """Whether a value is one that is nested too deep to be shown."""
    return type(value) in (tuple, list) and len(value) == 90


def is_some_land(value, fine):
    if not are_numbers(value, len(value) if type(value) is tuple else 0, 9):
        return False
    return 0 < len(value) and sorted(set(value)) == list(value) and value[0] >= 0 and value[-1] <= max(fine)


def lesser_rings(body):
    """As many edges as a round has, of which each corner has two, that are more than one ring."""
    rests = [tuple(edge for edge in edges(body) if edge not in row) for row in pairings(body)]
    return [rest for rest in rests if rest not in rounds(body)]


def near_trees(body):
    """As many edges as a tree has, of which some close a ring."""
    tree = last_tree(body)
    swaps = [(out, into) for out in tree for into in edges(body) if into not in tree]
    return [tuple(sorted(set(tree) - {out} | {into})) for out, into in swaps
            if (out, into) not in exchanges(body, tree)]


def are_some(value, fine):
    if type(value) is not tuple or not all(type(item) is tuple and item in fine for item in value):
        return False
    return list(value) == sorted(set(value))


# Some values that small faults make are right ones by chance.
CHANCES = {
    "edge_facts": lambda value, fine: is_part(value, fine, 6),
    "body_facts": lambda value, fine: is_part(value, fine, 5),
    "script": lambda value, fine: is_part(value, fine, 12),
    "thick": lambda value, fine: are_numbers(value, len(fine), 20) and min(value) >= 1,
    "faces": lambda value, fine: is_some_land(value, fine) or type(value) is tuple and len(value) == 0,
    "even": lambda value, fine: type(value) is tuple and len(value) == 0,
    "tear": lambda value, fine: type(value) is tuple and len(value) == 0,
    "corners": are_some,
    "some": are_some,
    "load": lambda value, fine: are_numbers(value, len(fine), 10 ** 9),
    "even_load": lambda value, fine: are_numbers(value, len(fine), 10 ** 9) and sum(value) == 0,
    "pile": lambda value, fine: are_numbers(value, len(fine), 60) and min(value) >= 0,
    "moves": lambda value, fine: are_numbers(value, len(fine), 10 ** 6),
    "prices": lambda value, fine: are_numbers(value, len(fine), 10 ** 20) and min(value) >= 0,
    "facts": lambda value, fine: are_facts(value),
    "land": is_some_land,
    "golden": lambda value, fine: are_numbers(value, 2, 1000),
    "weights": lambda value, fine: are_numbers(value, len(fine), 10 ** 6),
    "allowed": lambda value, fine: are_hue_rows(value, len(fine)),
    "many_hues": lambda value, fine: are_numbers(value, len(fine), 10 ** 12 - 1) and min(value) >= 0,
}


def ringed(body):
    """A course that leads around the corner of the faces 0, 1 and another one."""
    third = [face for face in body[0] if face in body[1]][0]
    return tuple(-1 if edge == (0, third) else 1 for edge in edges(body))


def not_tied(body):
    """Pairs of faces that are not around one another."""
    return [(one, other) for other in range(len(body)) for one in range(other) if other not in body[one]]


def bent_words(text):
    return [text[:-1], text[1:], text[::-1], text + "()" * 9, "()", "", "(" + text[1:] + "(", text[0] + "{}" + text[1:],
            text + " ", text + "\n", [text], (text,), list(text), tuple(text), "(])[", ")([]", "[[]", "()" * 11]


def bent_texts(text):
    """Texts with a sign too many, too few, or another one, and values of other kinds."""
    found = [text[:-1], text[1:], text + " ", " " + text, text + "\n", "\n" + text, text + "0", "0" + text, text * 2,
             text.replace("1", "01", 1), text.replace("1", "+1", 1), text.replace("1", "1 ", 1), text.upper() + "A",
             text.replace("0", "9", 1), text.replace("0", "", 1), text.replace("1", "", 1), text.replace(" ", "  ", 1),
             text.replace(" ", "", 1), text.replace(" ", "\n", 1), text.replace("-", "--", 1), text.replace("-", "", 1),
             text.replace("-", "+", 1), text.replace("+", "*", 1), text.replace("/", "|", 1),
             text.replace("/", "//", 1),
             text.replace("\n", " ", 1), text.replace("\n", "\n\n", 1), text.replace("1", "1_0", 1), [text], (text,),
             list(text), tuple(text), "x" * 1000, "0" * 1000, " " * 1000, "-" * 1000, "/ " * 500, "\n" * 1000]
    return [value for value in found if value != text]


def wrong_values(call, args, at):
    """Wrong values for the argument at an index, all others being right."""
    kind = call.kinds[at].lstrip("?")
    if kind == "web":
        near = ["corner", "Faces", "faces ", "corners\n", ["corners"], ("faces",), "cornersfaces"]
        return odd_values() + odd_integers() + near
    if kind == "word":
        return odd_values() + odd_integers() + bent_words(args[at])
    if kind == "text":
        found = odd_values() + odd_integers() + bent_texts(args[at])
        # No steps, and no edges, are written as the empty text.
        return [value for value in found if value != "" or call.name not in ("read_edges", "read_script")]
    if kind in RANGES:
        fine = RANGES[kind](args)
        given = odd_values() + odd_integers() + list(range(-2, 15))
        given += [10 ** 12 + 1, -(10 ** 12) - 1, 10 ** 22 + 1, 10 ** 30 + 1]
        return [value for value in given if type(value) is not int or value not in fine]
    body = args[0] if kind != "body" else args[at]
    found = odd_values() + odd_integers() + bent(args[at]) + FALSE_FRIENDS[kind](body)
    return [value for value in found if not (kind in CHANCES and CHANCES[kind](value, args[at]))]


def cases():
    """All calls, each with right arguments over some bodies within its limit."""
    for call in CALLS:
        for body in call.bodies:
            yield call, call.make(body)
