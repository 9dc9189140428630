"""Words of rounds, and the bodies that words make."""

from huesandrounds.bodies import check_body, is_body
from huesandrounds.checking import check_size
from huesandrounds.errors import InvalidWord
from huesandrounds.forms import plain_form, turn_list
from huesandrounds.rounds import lands_by, round_list
from huesandrounds.structure import corner_edges, corner_list, edge_list, rings_of
from huesandrounds.walks import check_walk, walk_places

LEAST_SIGNS = 4
MOST_SIGNS = 20
MOST_FOR_WORDS = 7
# Each sign with the like one of the other kind.
EXCHANGED = {"(": "[", ")": "]", "[": "(", "]": ")"}


def is_word(value):
    """Whether any value is a word."""
    if not isinstance(value, str) or not LEAST_SIGNS <= len(value) <= MOST_SIGNS:
        return False
    if not all([sign in EXCHANGED for sign in value]):
        return False
    return _closes(value, "(", ")") and _closes(value, "[", "]")


def _closes(text, opening, closing):
    """Whether there are as many closing signs as opening ones, and never more from the beginning on."""
    depths = [text[:at].count(opening) - text[:at].count(closing) for at in range(len(text) + 1)]
    return min(depths) == 0 and depths[-1] == 0


def word(body, tour, corner, edge):
    """The word of a round that is walked from a corner along an edge."""
    check_walk(body, tour, corner, edge)
    return _word_of(body, tour, walk_places(body, tour, corner, edge))


def _word_of(body, tour, walk):
    """The word of a round, given the places of all corners as they are walked."""
    edges = edge_list(body)
    around = corner_edges(body)
    left = [[edge for edge in around[place] if edges[edge] not in tour][0] for place in walk]
    inner = lands_by(body, tour)[0]
    signs = []
    for at, own in enumerate(left):
        kind = "()" if edges[own][0] in inner else "[]"
        signs.append(kind[1] if own in left[:at] else kind[0])
    return "".join(signs)


def body_of(text):
    """The plain form of the body that a word makes, or None."""
    if not is_word(text):
        raise InvalidWord("no word")
    follow = {}
    for a, b, c in _corners_of(text):
        for one, other, third in ((a, b, c), (b, c, a), (c, a, b)):
            if (one, other) in follow:
                return None
            follow[(one, other)] = third
    body = rings_of(follow, len(text) // 2 + 2)
    return plain_form(body) if is_body(body) else None


def _corners_of(text):
    """The faces of all corners, in turn, of a round that has a word.

    Walked, the round has the land of the round signs on its left, that of the square ones on its right.
    """
    left = _land_along(text, "()", 0)
    right = _land_along(text, "[]", text.count("(") + 1)
    found = []
    for at, sign in enumerate(text):
        if sign in "()":
            found.append((left[at + 1], left[at], right[at]))
        else:
            found.append((left[at], right[at], right[at + 1]))
    return found


def _land_along(text, signs, first):
    """The faces of a land, numbered from a first one on, along a round: ahead of all signs, and behind each one."""
    met = [first]
    fresh = first + 1
    along = [first]
    for sign in text:
        if sign == signs[0]:
            met.append(fresh)
            fresh = fresh + 1
        if sign == signs[1]:
            met.pop()
        along.append(met[-1])
    return along


def count_words(body):
    """How many words make bodies alike to a body."""
    check_body(body)
    # Each corner, each way to walk and each land that gets the face 0 make a word; own turns make the same ones.
    return 4 * len(round_list(body)) * (2 * len(body) - 4) // len(turn_list(body))


def words(body):
    """The ascending list of all words that make bodies alike to a body."""
    check_body(body)
    check_size(body, MOST_FOR_WORDS)
    found = []
    for tour in round_list(body):
        for corner in corner_list(body):
            a, b, c = corner
            ways = [edge for edge in ((a, b), (a, c), (b, c)) if edge in tour]
            found.extend([_word_of(body, tour, walk_places(body, tour, corner, edge)) for edge in ways])
    # An alike body may have the face 0 in the other land.
    turned = ["".join([EXCHANGED[sign] for sign in text]) for text in found]
    return sorted(set(found + turned))
