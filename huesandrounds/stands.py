"""Stands: a body with edge hues, a round and a tree, which steps lead on together."""

from huesandrounds.basics import is_ascending, is_row, is_within
from huesandrounds.bodies import LEAST_FACES, MOST_FACES, is_body
from huesandrounds.checking import check_corner, check_edge, check_face, check_other_hue
from huesandrounds.cutting import cut_at, healed_at
from huesandrounds.edgehues import are_hues, chain_at, edges_with, swapped
from huesandrounds.errors import (InvalidEdge, InvalidScript, InvalidStand, InvalidStep, NoRound, NoSeam, Tangled,
                                  TooMany)
from huesandrounds.exchanging import behind_exchange, ring_through
from huesandrounds.rounds import check_tour_edge, hues_round, is_tour, rounds_through
from huesandrounds.structure import edge_list, edge_places, pair, rest_of
from huesandrounds.trees import is_tree
from huesandrounds.walks import carried_over, without_face
from huesandrounds.webs import CORNERS

MOST_STEPS = 12
# What stands behind the word of a step.
KINDS = {
    "exchange": ("edge", "hue"), "rename": ("order",), "flip": ("edge",), "flop": ("edge",),
    "graft": ("edge", "edge"), "paint": (), "trace": ("hue",), "cut": ("corner",), "heal": ("face",),
}


def is_stand(value):
    """Whether any value is a stand."""
    if not isinstance(value, tuple) or len(value) != 4:
        return False
    body, hues, tour, tree = value
    return is_body(body) and are_hues(body, hues) and is_tour(body, tour) and is_tree(body, CORNERS, tree)


def check_stand(value):
    """Raises InvalidStand for any value that is no stand."""
    if not is_stand(value):
        raise InvalidStand("no stand")


def is_step(value):
    """Whether any value is a step."""
    if not isinstance(value, tuple) or len(value) == 0 or not isinstance(value[0], str):
        return False
    kinds = KINDS.get(value[0], ())
    if value[0] not in KINDS or len(value) != len(kinds) + 1:
        return False
    return all([_is_item(kind, item) for kind, item in zip(kinds, value[1:])])


def _is_item(kind, value):
    """Whether any value is of a kind that stands in steps."""
    if kind == "face":
        return is_within(value, 0, MOST_FACES - 1)
    if kind == "hue":
        return is_within(value, 0, 2)
    if kind == "order":
        return is_row(value, 3, 0, 2) and sorted(value) == [0, 1, 2]
    return is_row(value, 2 if kind == "edge" else 3, 0, MOST_FACES - 1) and is_ascending(value)


def check_step(value):
    """Raises InvalidStep for any value that is no step."""
    if not is_step(value):
        raise InvalidStep("no step")


def is_script(value):
    """Whether any value is a script."""
    return isinstance(value, tuple) and len(value) <= MOST_STEPS and all([is_step(item) for item in value])


def check_script(value):
    """Raises InvalidScript for any value that is no script."""
    if not is_script(value):
        raise InvalidScript("no script")


def done(stand, step):
    """The stand behind a step."""
    check_stand(stand)
    check_step(step)
    return behind_step(stand, step)


def course(stand, script):
    """The list of a stand, and of the stands behind each step of a script, one after another."""
    check_stand(stand)
    check_script(script)
    return stands_along(stand, script)


def stands_along(stand, script):
    """What `course` tells of what is taken to be right."""
    found = [stand]
    for step in script:
        found.append(behind_step(found[-1], step))
    return found


def back(stand, step):
    """The step that leads back to a stand from what is behind a step, or None."""
    check_stand(stand)
    check_step(step)
    body, hues, _, _ = stand
    behind_step(stand, step)
    word = step[0]
    if word == "exchange":
        return (word, step[1], hues[edge_places(body)[step[1]]])
    if word == "rename":
        return (word, tuple([step[1].index(hue) for hue in range(3)]))
    if word in ("flip", "flop"):
        return ("flop" if word == "flip" else "flip", step[1])
    if word == "graft":
        return (word, step[2], step[1])
    return ("heal", len(body)) if word == "cut" else None


def behind_step(stand, step):
    """The stand behind a step, both taken to be such; it raises what the step's word tells."""
    body, hues, tour, tree = stand
    word = step[0]
    if word in ("exchange", "rename"):
        return (body, hues_led(body, hues, step), tour, tree)
    if word in ("flip", "flop"):
        return (body, hues, _next_round(body, tour, step[1], 1 if word == "flip" else -1), tree)
    if word == "graft":
        return (body, hues, tour, _grafted(body, tree, step[1], step[2]))
    if word == "paint":
        return (body, hues_round(body, tour), tour, tree)
    if word == "trace":
        return (body, hues, _traced(body, hues, step[1]), tree)
    if word == "cut":
        return _behind_cut(stand, step[1])
    return _behind_healing(stand, step[1])


def hues_led(body, hues, step):
    """The edge hues behind an exchange or a renaming."""
    if step[0] == "rename":
        return tuple([step[1][hue] for hue in hues])
    _, edge, hue = step
    check_edge(body, edge)
    at = edge_places(body)[edge]
    check_other_hue(hue, hues[at], 2)
    return swapped(hues, chain_at(body, hues, at, hue), hues[at], hue)


def _next_round(body, tour, edge, way):
    """The round behind (1) or ahead of (-1) a round among those that have one of its edges, going round."""
    check_tour_edge(body, tour, edge)
    found = rounds_through(body, edge)
    return found[(found.index(tour) + way) % len(found)]


def _grafted(body, tree, edge, gone):
    """The tree to which an edge comes, and which another one leaves."""
    check_edge(body, edge)
    if edge in tree:
        raise InvalidEdge("an edge of the tree")
    if gone not in ring_through(body, tree, edge):
        raise InvalidEdge("no edge of the tree that closes a ring with the other one")
    return behind_exchange(tree, (gone, edge))


def _traced(body, hues, hue):
    """The round of all edges that have not a hue."""
    tour = rest_of(body, edges_with(body, hues, hue))
    if not is_tour(body, tour):
        raise NoRound("the edges of the other hues are no round")
    return tour


def _behind_cut(stand, corner):
    """The stand with a corner cut off."""
    body, hues, tour, tree = stand
    check_cut(body, corner)
    fresh = len(body)
    more = ((corner[0], fresh), (corner[1], fresh))
    return (cut_at(body, (corner, -1)), hues_cut(body, hues, corner), carried_over(tour, corner, fresh),
            tuple(sorted(tree + more)))


def check_cut(body, corner):
    """The checks of a corner that is cut off."""
    check_corner(body, corner)
    if len(body) == MOST_FACES:
        raise TooMany(MOST_FACES)


def hues_cut(body, hues, corner):
    """The edge hues, of the body with a corner cut off, of which all edges that there were keep theirs."""
    hue_of = dict(zip(edge_list(body), hues))
    fresh = len(body)
    found = [(edge, hue_of[edge]) for edge in edge_list(body)]
    for face in corner:
        one, other = [item for item in corner if item != face]
        found.append(((face, fresh), hue_of[pair(one, other)]))
    return tuple([hue for _, hue in sorted(found)])


def _behind_healing(stand, face):
    """The stand with a face healed."""
    body, hues, tour, tree = stand
    check_healing(body, face)
    if len([edge for edge in tree if face in edge]) != 2:
        raise Tangled("a tree with one edge of the face alone")
    return (healed_at(body, (face, -1)), hues_healed(body, hues, face), without_face(tour, face),
            without_face(tree, face))


def check_healing(body, face):
    """The checks of a face that is healed."""
    check_face(body, face)
    if len(body[face]) != 3 or len(body) == LEAST_FACES:
        raise NoSeam("no face of three sides of a body of more than four")


def hues_healed(body, hues, face):
    """The edge hues, of the body with a face healed, of which all other edges keep theirs."""
    return tuple([hue for edge, hue in zip(edge_list(body), hues) if face not in edge])
