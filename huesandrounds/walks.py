"""Rounds walked from corner to corner, what they leave out, and rounds carried to cut and to healed bodies."""

from huesandrounds.bodies import LEAST_FACES, MOST_FACES, check_body
from huesandrounds.checking import check_corner, check_face, is_edge
from huesandrounds.cutting import lowered
from huesandrounds.errors import InvalidEdge, NoSeam, TooMany
from huesandrounds.rounds import check_tour, lands_by, tour_steps
from huesandrounds.structure import corner_list, edge_places, rest_of


def corner_walk(body, tour, corner, edge):
    """The tuple of all corners, as one comes to them on a round, from a corner along an edge."""
    check_walk(body, tour, corner, edge)
    corners = corner_list(body)
    return tuple([corners[at] for at in walk_places(body, tour, corner, edge)])


def check_walk(body, tour, corner, edge):
    """All checks of what takes a round that is walked from a corner along one of its edges there."""
    check_body(body)
    check_tour(body, tour)
    check_corner(body, corner)
    if not is_edge(body, edge) or edge not in tour or not _is_at(edge, corner):
        raise InvalidEdge("no edge of the round at the corner")


def _is_at(edge, corner):
    """Whether an edge is one of the three of a corner."""
    return edge[0] in corner and edge[1] in corner


def walk_places(body, tour, corner, edge):
    """The list of the places of all corners, as one comes to them on a round."""
    steps = tour_steps(body, tour, corner_list(body).index(corner), edge_places(body)[edge])
    return [at for at, _ in steps]


def left_edges(body, tour):
    """The pair of the tuples of the edges that a round leaves out, first those in the land with the face 0."""
    check_body(body)
    check_tour(body, tour)
    rest = rest_of(body, tour)
    return tuple([tuple([edge for edge in rest if edge[0] in land]) for land in lands_by(body, tour)])


def carried(body, tour, corner):
    """The round, of the body with a corner cut off, that has all edges of a round."""
    check_body(body)
    check_tour(body, tour)
    check_corner(body, corner)
    if len(body) == MOST_FACES:
        raise TooMany(MOST_FACES)
    return carried_over(tour, corner, len(body))


def carried_over(tour, corner, fresh):
    """The round with the two edges of a new face at a corner that it gets if this corner is cut off."""
    a, b, c = corner
    left = [edge for edge in ((a, b), (a, c), (b, c)) if edge not in tour][0]
    # From the one edge of the round at the corner to the other one it goes around both corners of the face between.
    return tuple(sorted(tour + ((left[0], fresh), (left[1], fresh))))


def carried_back(body, tour, face):
    """The round, of the body with a face of three sides healed, that has all edges of a round but those at the face."""
    check_body(body)
    check_tour(body, tour)
    check_face(body, face)
    if len(body[face]) != 3 or len(body) == LEAST_FACES:
        raise NoSeam("no face of three sides of a body of more than four")
    return without_face(tour, face)


def without_face(some, face):
    """All edges of an ascending tuple but those at a face, their faces numbered as if this face is gone."""
    return tuple([(lowered(one, face), lowered(other, face)) for one, other in some if face not in (one, other)])
