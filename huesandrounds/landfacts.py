"""Rounds beside a round, rounds of edge hues, and what is known of lands."""

from huesandrounds.basics import is_row
from huesandrounds.bodies import check_body
from huesandrounds.checking import check_face, check_size
from huesandrounds.edgehues import check_hues, edges_with
from huesandrounds.errors import InvalidFacts
from huesandrounds.rounds import check_tour, hues_round, is_tour, lands_by, round_list
from huesandrounds.structure import rest_of

MOST_FOR_FACTS = 8
MOST_FACTS = 6


def beside(body, tour):
    """The ascending list of all other rounds of the hue 2 and another one of the edge hues of a round."""
    check_body(body)
    check_tour(body, tour)
    hues = hues_round(body, tour)
    return sorted([other for other in [_round_without(body, hues, hue) for hue in (0, 1)] if other is not None])


def hue_rounds(body, hues):
    """The triple of the rounds of the hues 0 and 1, 0 and 2, and 1 and 2, or None for each that is none."""
    check_body(body)
    check_hues(body, hues)
    return tuple([_round_without(body, hues, hue) for hue in (2, 1, 0)])


def _round_without(body, hues, hue):
    """The round of all edges that have not a hue, or None."""
    tour = rest_of(body, edges_with(body, hues, hue))
    return tour if is_tour(body, tour) else None


def rounds_by_lands(body, facts):
    """The ascending list of all rounds of which facts tell whether two faces are in the same land."""
    check_body(body)
    _check_facts(body, facts)
    check_size(body, MOST_FOR_FACTS)
    return [tour for tour in round_list(body) if _agrees(lands_by(body, tour), facts)]


def surely_same(body, facts, face, last):
    """Whether two faces are in the same land of all rounds of which facts tell, of none, or (None) of some."""
    check_body(body)
    _check_facts(body, facts)
    check_face(body, face)
    check_face(body, last)
    check_size(body, MOST_FOR_FACTS)
    found = [lands_by(body, tour) for tour in round_list(body)]
    told = sorted({_are_together(both, face, last) for both in found if _agrees(both, facts)})
    return told[0] if len(told) == 1 else None


def _agrees(both, facts):
    """Whether all facts are so for two lands."""
    return all([_are_together(both, one, other) == same for one, other, same in facts])


def _are_together(both, one, other):
    """Whether two faces are in the same one of two lands."""
    return (one in both[0]) == (other in both[0])


def _check_facts(body, value):
    """Raises InvalidFacts for any value that is no tuple of facts of lands."""
    if not isinstance(value, tuple) or len(value) > MOST_FACTS or not all([_is_fact(body, item) for item in value]):
        raise InvalidFacts("no facts of lands")


def _is_fact(body, value):
    """Whether any value is a triple of a face, a greater one, and a boolean."""
    if not isinstance(value, tuple) or len(value) != 3 or not is_row(value[:2], 2, 0, len(body) - 1):
        return False
    return value[0] < value[1] and isinstance(value[2], bool)
