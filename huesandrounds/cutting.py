"""Cutting bodies at spots, healing them at seams, and ways down to four faces."""

from huesandrounds.basics import is_row, is_within
from huesandrounds.bodies import LEAST_FACES, MOST_FACES, check_body
from huesandrounds.errors import InvalidSeam, InvalidSpot, TooMany
from huesandrounds.structure import corner_list, edge_list, followers, rings_of


def spots(body):
    """The ascending list of all spots."""
    check_body(body)
    return spot_list(body)


def seams(body):
    """The ascending list of all seams."""
    check_body(body)
    return seam_list(body)


def cut(body, spot):
    """The body with a spot cut."""
    check_body(body)
    if not is_spot(body, spot):
        raise InvalidSpot("no spot of the body")
    if len(body) == MOST_FACES:
        raise TooMany(MOST_FACES)
    return cut_at(body, spot)


def healed(body, seam):
    """The body with a seam healed."""
    check_body(body)
    if not is_seam(body, seam):
        raise InvalidSeam("no seam of the body")
    return healed_at(body, seam)


def way_down(body):
    """Any way down from the body to four faces."""
    check_body(body)
    way = []
    while len(body) > LEAST_FACES:
        seam = seam_list(body)[0]
        way.append(seam)
        body = healed_at(body, seam)
    return tuple(way)


def is_way_down(body, value):
    """Whether any value is a way down from the body."""
    check_body(body)
    if not isinstance(value, tuple) or len(value) != len(body) - LEAST_FACES:
        return False
    for seam in value:
        if not is_seam(body, seam):
            return False
        body = healed_at(body, seam)
    return True


def is_spot(body, value):
    """Whether any value is a spot of the body."""
    if not isinstance(value, tuple) or len(value) != 2:
        return False
    faces, middle = value
    # Only plain numbers are compared, since the values may be of any kind.
    if not is_within(middle, -1, len(body) - 1):
        return False
    if not is_row(faces, 2, 0, len(body) - 1) and not is_row(faces, 3, 0, len(body) - 1):
        return False
    return value in spot_list(body)


def is_seam(body, value):
    """Whether any value is a seam of the body."""
    return is_row(value, 2, -1, len(body) - 1) and value in seam_list(body)


def spot_list(body):
    """The ascending list of all spots of what is taken to be a body."""
    found = [(edge, -1) for edge in edge_list(body)]
    for corner in corner_list(body):
        found.append((corner, -1))
        for middle in corner:
            if len(body[middle]) >= 4:
                found.append((corner, middle))
    return sorted(found)


def seam_list(body):
    """The ascending list of all seams of what is taken to be a body."""
    if len(body) == LEAST_FACES:
        return []
    found = []
    for face in range(len(body)):
        for middle in _seam_middles(body, body[face]):
            found.append((face, middle))
    return sorted(found)


def _seam_middles(body, ring):
    """The middles of all seams of the face that has a ring."""
    if len(ring) == 3:
        return [-1]
    if len(ring) == 4:
        opposite = [(ring[0], ring[2]), (ring[1], ring[3])]
        return [min(one, other) for one, other in opposite if other not in body[one]]
    if len(ring) == 5:
        return [ring[at] for at in range(5) if _is_free(body, ring, at)]
    return []


def _is_free(body, ring, at):
    """Whether the face at a place of a ring of five is around neither of the two that are not next to it there."""
    around = body[ring[at]]
    return ring[at - 2] not in around and ring[at - 3] not in around


def cut_at(body, spot):
    """The body with a spot cut, both taken to be such."""
    follow = followers(body)
    struck = _struck(follow, spot)
    rest = {}
    for sides in follow:
        if sides not in struck:
            rest[sides] = follow[sides]
    fresh = len(body)
    for one, other in struck:
        # What is struck on one side alone is the rim of the hole in which the new face lies.
        if (other, one) not in struck:
            rest[(one, other)] = fresh
            rest[(other, fresh)] = one
            rest[(fresh, one)] = other
    return rings_of(rest, fresh + 1)


def _struck(follow, spot):
    """A dict of all turns (one, other) in the corners that a spot cuts off."""
    struck = {}
    for one, other in _starts(follow, spot):
        third = follow[(one, other)]
        struck[(one, other)] = True
        struck[(other, third)] = True
        struck[(third, one)] = True
    return struck


def _starts(follow, spot):
    """Pairs of faces (one, other) that, each with its follower, tell all corners that a spot cuts off."""
    faces, middle = spot
    if len(faces) == 2:
        return [faces, faces[::-1]]
    if middle == -1:
        a, b, c = faces
        return [(a, b) if follow[(a, b)] == c else (b, a)]
    others = [face for face in faces if face != middle]
    return [(middle, face) for face in others] + [(face, middle) for face in others]


def healed_at(body, seam):
    """The body with a seam healed, both taken to be such."""
    face, middle = seam
    ring = body[face]
    at = 0 if middle == -1 else ring.index(middle)
    ring = ring[at:] + ring[:at]
    follow = followers(body)
    rest = {}
    for one, other in follow:
        if face not in (one, other):
            rest[(one, other)] = follow[(one, other)]
    for at in range(1, len(ring) - 1):
        rest[(ring[0], ring[at])] = ring[at + 1]
        rest[(ring[at], ring[at + 1])] = ring[0]
        rest[(ring[at + 1], ring[0])] = ring[at]
    return rings_of(_closed_up(rest, face), len(body) - 1)


def _closed_up(follow, face):
    """Followers in which all faces above a face that is gone have numbers less by 1."""
    lower = {}
    for one, other in follow:
        lower[(lowered(one, face), lowered(other, face))] = lowered(follow[(one, other)], face)
    return lower


def lowered(number, face):
    """The number of a face behind another one is gone."""
    return number - 1 if number > face else number
