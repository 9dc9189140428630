"""Hues, rounds and pairings told by what is known of their edges, and bodies told by numbers."""

from huesandrounds.basics import is_within
from huesandrounds.bodies import LEAST_FACES, belt_list, check_body
from huesandrounds.checking import check_edge, check_edges, check_number, check_size, is_edge
from huesandrounds.edgehues import check_hues, hue_list
from huesandrounds.errors import InvalidFacts
from huesandrounds.extending import hues_from_zero
from huesandrounds.forms import MOST_LISTED, form_list
from huesandrounds.lines import pairing_list
from huesandrounds.rounds import round_list
from huesandrounds.structure import edge_list, edge_places

MOST_FOR_TELLING = 7
MOST_EDGE_FACTS = 6
MOST_BODY_FACTS = 5
MOST_TOLD = 1000
WORDS = ("belts", "fives", "fours", "hues", "pairings", "rounds", "threes")
SIDES = {"threes": 3, "fours": 4, "fives": 5}


def hues_told(body, facts):
    """The ascending list of all edge hues in which some edges have the hues that facts tell."""
    check_body(body)
    _check_facts(body, facts)
    check_size(body, MOST_FOR_TELLING)
    return _hues_by(body, facts)


def _check_facts(body, value):
    """Raises InvalidFacts for any value that is no tuple of facts of edges."""
    if not isinstance(value, tuple) or len(value) > MOST_EDGE_FACTS:
        raise InvalidFacts("no tuple of few facts")
    if not all([_is_fact(body, item) for item in value]):
        raise InvalidFacts("no facts of edges")


def _is_fact(body, value):
    """Whether any value is a pair of an edge and a hue."""
    return isinstance(value, tuple) and len(value) == 2 and is_edge(body, value[0]) and is_within(value[1], 0, 2)


def _hues_by(body, facts):
    """What `hues_told` tells of what is taken to be facts."""
    places = edge_places(body)
    told = [(places[edge], hue) for edge, hue in facts]
    return [hues for hues in hue_list(body) if all([hues[at] == hue for at, hue in told])]


def surely(body, facts, edge):
    """The hue that an edge has in all edge hues of which facts tell; None if it is not the same, or there are none."""
    check_body(body)
    _check_facts(body, facts)
    check_edge(body, edge)
    check_size(body, MOST_FOR_TELLING)
    at = edge_places(body)[edge]
    told = sorted({hues[at] for hues in _hues_by(body, facts)})
    return told[0] if len(told) == 1 else None


def fewest_told(body, hues):
    """The first one of the shortest tuples of edges at which no other edge hues have the same hues."""
    check_body(body)
    check_hues(body, hues)
    check_size(body, MOST_FOR_TELLING)
    edges = edge_list(body)
    # Each tuple of places stands with all other edge hues that have the same hues there.
    rows = [((), [row for row in hue_list(body) if row != hues])]
    while True:
        found = [row for row, others in rows if not others]
        if found:
            return tuple([edges[at] for at in found[0]])
        rows = [(row + (at,), [other for other in others if other[at] == hues[at]])
                for row, others in rows for at in range(row[-1] + 1 if row else 0, len(edges))]


def rounds_told(body, ins, outs):
    """The ascending list of all rounds that have all of some edges, and none of others."""
    _check_ins_and_outs(body, ins, outs)
    return _with_and_without(round_list(body), ins, outs)


def pairings_told(body, ins, outs):
    """The ascending list of all pairings that have all of some edges, and none of others."""
    _check_ins_and_outs(body, ins, outs)
    return _with_and_without(pairing_list(body), ins, outs)


def _check_ins_and_outs(body, ins, outs):
    """The checks of a body and of two tuples of edges."""
    check_body(body)
    check_edges(body, ins)
    check_edges(body, outs)
    check_size(body, MOST_FOR_TELLING)


def _with_and_without(rows, ins, outs):
    """Those lots of edges that have all of some edges, and none of others."""
    fit = [row for row in rows if all([edge in row for edge in ins])]
    return [row for row in fit if not any([edge in row for edge in outs])]


def bodies_told(faces, facts):
    """The ascending list of all plain forms of bodies with so many faces of which words tell some numbers."""
    check_number(faces, LEAST_FACES, MOST_LISTED)
    if not isinstance(facts, tuple) or len(facts) > MOST_BODY_FACTS or not all([_is_told(item) for item in facts]):
        raise InvalidFacts("no facts of bodies")
    return [body for body in form_list(faces) if all([_number_of(body, word) == number for word, number in facts])]


def _is_told(value):
    """Whether any value is a pair of a word and a number."""
    if not isinstance(value, tuple) or len(value) != 2:
        return False
    return value[0] in WORDS and is_within(value[1], 0, MOST_TOLD)


def _number_of(body, word):
    """What a word tells of a body."""
    if word == "belts":
        return len(belt_list(body))
    if word == "hues":
        return len(hues_from_zero(body))
    if word == "pairings":
        return len(pairing_list(body))
    if word == "rounds":
        return len(round_list(body))
    return len([ring for ring in body if len(ring) == SIDES[word]])


def told_apart(one, other):
    """The ascending list of all words that tell unlike numbers of two bodies."""
    check_body(one)
    check_body(other)
    check_size(one, MOST_FOR_TELLING)
    check_size(other, MOST_FOR_TELLING)
    return [word for word in WORDS if _number_of(one, word) != _number_of(other, word)]
