"""All functions of the interface, with right arguments, and with wrong values for each argument.

Kinds of arguments are words. One with a question mark ahead takes any value: the function tells False of wrong ones.
"""

import importlib

from huesandrounds import errors
from huesandrounds.bodies import corners, edges
from huesandrounds.cutting import seams, way_down
from huesandrounds.facehues import first_face_hues, to_edges
from tests.support import F, K, bent, deep, odd_integers, odd_values


class Call:
    """A function, the kinds of its arguments, how right ones come of a body, and its limit of faces."""

    def __init__(self, place, kinds, make, limit=None):
        self.module, self.name = place.split(".")
        self.kinds = kinds.split()
        self.make = make
        self.limit = limit
        self.run = getattr(importlib.import_module(f"huesandrounds.{self.module}"), self.name)


ERRORS = {
    "body": errors.InvalidBody, "face": errors.InvalidFace, "near": errors.InvalidFace, "turning": errors.InvalidTurning,
    "edge": errors.InvalidEdge, "corner": errors.InvalidCorner, "spot": errors.InvalidSpot, "seam": errors.InvalidSeam,
    "hues": errors.InvalidHues, "hue2": errors.InvalidHue, "hue3": errors.InvalidHue, "exchange": errors.InvalidHue,
    "repaint": errors.InvalidHue, "unlike": errors.InvalidHue, "face_hues": errors.InvalidFaceHues,
    "small": errors.InvalidNumber, "colours": errors.InvalidNumber,
}


def hues_on(body):
    return to_edges(body, first_face_hues(body))


def on_edge(body):
    """Arguments for what takes edge hues, an edge, and another hue than it has."""
    hues = hues_on(body)
    return (body, hues, edges(body)[1], (hues[1] + 1) % 3)


def on_face(body):
    """Arguments for what takes face hues, a face, and another hue than it has."""
    face_hues = first_face_hues(body)
    return (body, face_hues, 1, (face_hues[1] + 2) % 4)


CALLS = [
    Call("bodies.is_body", "?body", lambda body: (body,)),
    Call("bodies.edges", "body", lambda body: (body,)),
    Call("bodies.corners", "body", lambda body: (body,)),
    Call("bodies.counts_of", "body", lambda body: (body,)),
    Call("bodies.belts", "body", lambda body: (body,)),
    Call("cutting.spots", "body", lambda body: (body,)),
    Call("cutting.seams", "body", lambda body: (body,)),
    Call("cutting.cut", "body spot", lambda body: (body, (corners(body)[1], -1))),
    Call("cutting.healed", "body seam", lambda body: (body, seams(body)[-1])),
    Call("cutting.way_down", "body", lambda body: (body,)),
    Call("cutting.is_way_down", "body ?way", lambda body: (body, way_down(body))),
    Call("forms.renumbered", "body face near turning", lambda body: (body, 1, body[1][2], -1)),
    Call("forms.plain", "body", lambda body: (body,)),
    Call("forms.mirrored", "body", lambda body: (body,)),
    Call("forms.alike", "body body", lambda body: (body, body[:])),
    Call("forms.own_turns", "body", lambda body: (body,)),
    Call("forms.is_own_mirror", "body", lambda body: (body,)),
    Call("forms.bodies", "small", lambda body: (min(len(body), 7),)),
    Call("edgehues.is_edge_hues", "body ?hues", lambda body: (body, hues_on(body))),
    Call("edgehues.count_edge_hues", "body", lambda body: (body,)),
    Call("edgehues.edge_hues", "body", lambda body: (body,), 9),
    Call("edgehues.chain", "body hues edge exchange", on_edge),
    Call("edgehues.exchanged", "body hues edge exchange", on_edge),
    Call("edgehues.hue_edges", "body hues hue2", lambda body: (body, hues_on(body), 2)),
    Call("edgehues.hue_rings", "body hues hue2", lambda body: (body, hues_on(body), 0)),
    Call("edgehues.is_perfect", "body hues", lambda body: (body, hues_on(body))),
    Call("edgehues.kinds", "body", lambda body: (body,), 7),
    Call("edgehues.kind_size", "body hues", lambda body: (body, hues_on(body)), 7),
    Call("edgehues.families", "body", lambda body: (body,), 7),
    Call("edgehues.steps", "body hues hues", lambda body: (body, hues_on(body), hues_on(body)[:]), 7),
    Call("facehues.is_face_hues", "body ?face_hues", lambda body: (body, first_face_hues(body))),
    Call("facehues.first_face_hues", "body", lambda body: (body,)),
    Call("facehues.all_face_hues", "body", lambda body: (body,), 8),
    Call("facehues.lots", "body", lambda body: (body,), 10),
    Call("facehues.count_face_hues", "body colours", lambda body: (body, 10 ** 12), 10),
    Call("facehues.to_edges", "body face_hues", lambda body: (body, first_face_hues(body))),
    Call("facehues.to_faces", "body hues hue3", lambda body: (body, hues_on(body), 3)),
    Call("facehues.three_hues", "body", lambda body: (body,)),
    Call("patches.patches", "body face_hues hue3 unlike", lambda body: (body, first_face_hues(body), 3, 0)),
    Call("patches.repainted", "body face_hues face repaint", on_face),
    Call("patches.paint_families", "body", lambda body: (body,), 7),
]

RANGES = {
    "face": lambda args: range(len(args[0])), "near": lambda args: args[0][args[1]], "turning": lambda args: (1, -1),
    "hue2": lambda args: range(3), "hue3": lambda args: range(4), "small": lambda args: range(4, 8),
    "colours": lambda args: range(10 ** 12 + 1),
    "exchange": lambda args: [hue for hue in range(3) if hue != args[1][edges(args[0]).index(args[2])]],
    "repaint": lambda args: [hue for hue in range(4) if hue != args[1][args[2]]],
    "unlike": lambda args: [hue for hue in range(4) if hue != args[2]],
}

# Further wrong values, of the form of right ones, for the bodies that the tests take.
FALSE_FRIENDS = {
    "body": lambda body: [
        body[::-1], body[:1] + body[2:], tuple(ring[::-1] for ring in body), tuple(ring[1:] + ring[:1] for ring in body),
        ((1, 2), (0, 2), (0, 1)), body + body, ((),) * 5, ((1, 2, 3), (0, 2, 3), (0, 1, 3), (0, 1, 2)),
        body[:1] + ((0, 2, 3),) + body[2:], [list(ring) for ring in body], tuple(list(ring) for ring in body)],
    "hues": lambda body: [(0,) * len(hues_on(body)), hues_on(body)[1:] + (3,), hues_on(body)[:-1] + (-1,)],
    "face_hues": lambda body: [
        (0,) * len(body), tuple(range(len(body)))[::-1] if len(body) > 4 else (0, 1, 2, 4), (-1,) + (0, 1, 2) * 3],
    "edge": lambda body: [(1, 0), (0, 0), (0, len(body)), (-1, 0), (0, 1, 2), [0, 1]] + not_tied(body),
    "corner": lambda body: [(0, 1), (0, 0, 1), corners(body)[0][::-1], (0, 1, len(body)), list(corners(body)[0])],
    "spot": lambda body: [
        ((0, 1, 2, 3), -1), ((0,), -1), ((1, 0), -1), (corners(body)[0][::-1], -1), (corners(body)[0], -2),
        ((0, 1), 0), (corners(body)[0], len(body)), (list(corners(body)[0]), -1), (corners(body)[0],),
        (corners(body)[0], None), (corners(body)[0], True), corners(body)[0], (deep(tuple, 90), -1), ((True, 2), -1)],
    "seam": lambda body: [(0, -2), (-1, -1), (len(body), -1), (0, len(body)), (0, 0), (0, None), (0, True), (0, 1, 2)],
    "way": lambda body: [way_down(body)[::-1] + ((0, 0),), way_down(body)[:-1] + ((0, len(body)),)],
}


def not_tied(body):
    """Pairs of faces that are not around one another."""
    return [(one, other) for other in range(len(body)) for one in range(other) if other not in body[one]]


def wrong_values(call, args, at):
    """Wrong values for the argument at an index, all others being right."""
    kind = call.kinds[at].lstrip("?")
    if kind in RANGES:
        fine = RANGES[kind](args)
        given = odd_values() + odd_integers() + list(range(-2, 15)) + [10 ** 12 + 1, -(10 ** 12) - 1]
        return [value for value in given if type(value) is not int or value not in fine]
    body = args[0] if kind != "body" else args[at]
    return odd_values() + odd_integers() + bent(args[at]) + FALSE_FRIENDS[kind](body)


def cases():
    """All calls, each with right arguments over some bodies within its limit."""
    for call in CALLS:
        for body in (F, K):
            if call.name in ("healed", "is_way_down") and body == F:
                continue
            yield call, call.make(body)
