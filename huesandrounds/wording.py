"""Words of rounds, and the bodies that words make."""

from huesandrounds.bodies import check_body, is_body
from huesandrounds.checking import check_size
from huesandrounds.errors import InvalidWord
from huesandrounds.forms import plain_form, turn_list
from huesandrounds.rounds import lands_by, round_list
from huesandrounds.structure import corner_edges, corner_list, edge_list, rings_of
from huesandrounds.walks import check_walk, walk_places

LEAST_SIGNS = 4
MOST_SIGNS = 20
MOST_FOR_WORDS = 7
# Each sign with the like one of the other kind.
EXCHANGED = {"(": "[", ")": "]", "[": "(", "]": ")"}
# Each sign with the opening one of its kind.
OPENING = {"(": "(", ")": "(", "[": "[", "]": "["}


def is_word(value):
    """Whether any value is a word."""
    if not isinstance(value, str) or not LEAST_SIGNS <= len(value) <= MOST_SIGNS:
        return False
    if value.count("(") != value.count(")") or value.count("[") != value.count("]"):
        return False
    depths = {"(": 0, "[": 0}
    for sign in value:
        if sign not in EXCHANGED:
            return False
        kind = OPENING[sign]
        depths[kind] = depths[kind] + (1 if sign == kind else -1)
        if depths[kind] < 0:
            return False
    return True


def word(body, tour, corner, edge):
    """The word of a round that is walked from a corner along an edge."""
    check_walk(body, tour, corner, edge)
    kinds = _kinds_left(body, tour)
    return _word_of(kinds, _left_along(body, kinds, walk_places(body, tour, corner, edge)))


def _kinds_left(body, tour):
    """For the place of each edge that a round leaves out, both signs of its kind."""
    inner = lands_by(body, tour)[0]
    kinds = {}
    for at, edge in enumerate(edge_list(body)):
        if edge not in tour:
            kinds[at] = "()" if edge[0] in inner else "[]"
    return kinds


def _left_along(body, kinds, walk):
    """The list of the places of the edges that are left out, one for each corner of a walk."""
    around = corner_edges(body)
    return [edge for corner in walk for edge in around[corner] if edge in kinds]


def _word_of(kinds, left):
    """The word of a round by the kinds of what it leaves out, and the edges left out along it."""
    met = {}
    signs = []
    for edge in left:
        signs.append(kinds[edge][1 if edge in met else 0])
        met[edge] = True
    return "".join(signs)


def body_of(text):
    """The plain form of the body that a word makes, or None."""
    if not is_word(text):
        raise InvalidWord("no word")
    follow = {}
    for a, b, c in _corners_of(text):
        for one, other, third in ((a, b, c), (b, c, a), (c, a, b)):
            if (one, other) in follow:
                return None
            follow[(one, other)] = third
    body = rings_of(follow, len(text) // 2 + 2)
    return plain_form(body) if is_body(body) else None


def _corners_of(text):
    """The faces of all corners, in turn, of a round that has a word.

    Walked, the round has the land of the round signs on its left, that of the square ones on its right.
    """
    left = _land_along(text, "()", 0)
    right = _land_along(text, "[]", text.count("(") + 1)
    found = []
    for at, sign in enumerate(text):
        if sign in "()":
            found.append((left[at + 1], left[at], right[at]))
        else:
            found.append((left[at], right[at], right[at + 1]))
    return found


def _land_along(text, signs, first):
    """The faces of a land, numbered from a first one on, along a round: ahead of all signs, and behind each one."""
    met = [first]
    fresh = first + 1
    along = [first]
    for sign in text:
        if sign == signs[0]:
            met.append(fresh)
            fresh = fresh + 1
        if sign == signs[1]:
            met.pop()
        along.append(met[-1])
    return along


def count_words(body):
    """How many words make bodies alike to a body."""
    check_body(body)
    # Each corner, each way to walk and each land that gets the face 0 make a word; own turns make the same ones.
    return 4 * len(round_list(body)) * (2 * len(body) - 4) // len(turn_list(body))


def words(body):
    """The ascending list of all words that make bodies alike to a body."""
    check_body(body)
    check_size(body, MOST_FOR_WORDS)
    found = []
    for tour in round_list(body):
        kinds = _kinds_left(body, tour)
        corner = corner_list(body)[0]
        first = [edge for edge in tour if edge[0] in corner and edge[1] in corner][0]
        left = _left_along(body, kinds, walk_places(body, tour, corner, first))
        # A walk from another corner, or the other way, goes by the same edges from another place on, or backwards.
        for row in (left, left[::-1]):
            found.extend([_word_of(kinds, row[at:] + row[:at]) for at in range(len(row))])
    # An alike body may have the face 0 in the other land.
    turned = ["".join([EXCHANGED[sign] for sign in text]) for text in found]
    return sorted(set(found + turned))
