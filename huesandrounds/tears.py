"""Tears of lots of corners, sums of even lots and tears, bicycles and zigzags."""

from huesandrounds.bodies import check_body
from huesandrounds.checking import check_corners, check_edge, check_edges, is_edge_row
from huesandrounds.errors import InvalidTear
from huesandrounds.evenlots import size_counts
from huesandrounds.parity import face_marks, marked_edges, marked_places, odd_faces
from huesandrounds.structure import corner_list, edge_ends, edge_list, edge_places, followers


def is_tear(body, value):
    """Whether any value is a tear of a body."""
    check_body(body)
    return _is_tear_row(body, value)


def _is_tear_row(body, value):
    """Whether any value is a tear of what is taken to be a body."""
    # Tears are just the lots of which each face has an even number of edges, as each ring around a face is torn so.
    return is_edge_row(body, value) and odd_faces(value) == 0


def tear(body, corners):
    """The tear of a lot of corners."""
    check_body(body)
    check_corners(body, corners)
    inside = [corner in corners for corner in corner_list(body)]
    ends = edge_ends(body)
    return tuple([edge for edge, (one, other) in zip(edge_list(body), ends) if inside[one] != inside[other]])


def corners_of(body, lot):
    """The lot of corners without the least one of which some edges are the tear."""
    check_body(body)
    if not _is_tear_row(body, lot):
        raise InvalidTear("no tear of the body")
    torn = [edge in lot for edge in edge_list(body)]
    ends = edge_ends(body)
    inside = {0: False}
    while len(inside) < 2 * len(body) - 4:
        for at, (one, other) in enumerate(ends):
            if one in inside and other not in inside:
                inside[other] = inside[one] != torn[at]
            if other in inside and one not in inside:
                inside[one] = inside[other] != torn[at]
    return tuple([corner for at, corner in enumerate(corner_list(body)) if inside[at]])


def tear_sizes(body):
    """How many tears have 0, 1, 2 and so on up to all edges."""
    check_body(body)
    # Known in print, by MacWilliams, as tears are all lots that have an even number of edges in common with each even
    # lot: each even lot gives the product of 1 - y for each of its edges and of 1 + y for each other one, and the sum
    # of these products tells how many tears there are, two to the power of the faces less 1 times each.
    total = []
    inner = [1]
    for many in size_counts(body):
        total = [item + many * more for item, more in zip(_times(total, 1), inner)]
        inner = _times(inner, -1)
    return tuple([item >> (len(body) - 1) for item in total])


def _times(numbers, sign):
    """The numbers of a polynomial in y times 1 + y, or 1 - y."""
    return [one + sign * other for one, other in zip(numbers + [0], [0] + numbers)]


def split(body, lot):
    """Any pair of an even lot and of a tear whose sum some edges are, or None."""
    check_body(body)
    check_edges(body, lot)
    fit = _rims_by(body, odd_faces(lot))
    if not fit:
        return None
    places = edge_list(body)
    inner = tuple([places[at] for at in marked_places(fit[0], len(places))])
    return (inner, tuple([edge for edge in places if (edge in inner) != (edge in lot)]))


def _rims_by(body, odd):
    """A list of the integers of all even lots of which just some faces have an odd number of edges."""
    # Beside the integer of its rim each lot of faces without the face 0 has that of the faces that are odd there.
    found = [(0, 0)]
    for face, mark in enumerate(face_marks(body)):
        if face > 0:
            own = odd_faces([(face, other) for other in body[face]])
            found = found + [(item ^ mark, met ^ own) for item, met in found]
    return [item for item, met in found if met == odd]


def count_bicycles(body):
    """How many bicycles a body has."""
    check_body(body)
    return len(_rims_by(body, 0))


def bicycles(body):
    """The ascending list of all bicycles."""
    check_body(body)
    return marked_edges(body, _rims_by(body, 0))


def edge_kind(body, edge):
    """The word "both" if an edge is in some bicycle, otherwise "rim" or "tear", whichever of both has it."""
    check_body(body)
    check_edge(body, edge)
    at = edge_places(body)[edge]
    if any([(mark >> at) & 1 == 1 for mark in _rims_by(body, 0)]):
        return "both"
    inner = _rims_by(body, odd_faces((edge,)))[0]
    return "rim" if (inner >> at) & 1 == 1 else "tear"


def zigzags(body):
    """The ascending list of all zigzags."""
    check_body(body)
    follow = followers(body)
    met = {}
    found = []
    for one, other in follow:
        # Each edge has two ways, and from each way a zigzag goes to either side.
        for start in ((one, other, follow[(one, other)]), (other, one, follow[(one, other)])):
            walk = []
            trio = start
            while trio not in met:
                met[trio] = True
                walk.append(trio[0])
                trio = _next_trio(follow, trio)
            if walk:
                found.append(_least_written(tuple(walk)))
    return sorted(set(found))


def _next_trio(follow, trio):
    """The three faces that come behind three in a zigzag."""
    first, one, other = trio
    ahead = follow[(one, other)]
    return (one, other, ahead if ahead != first else follow[(other, one)])


def _least_written(walk):
    """The least tuple that a zigzag makes, begun at any place and taken either way."""
    return min([row[at:] + row[:at] for row in (walk, walk[::-1]) for at in range(len(row))])
