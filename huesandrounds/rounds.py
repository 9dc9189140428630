"""Rounds over all corners, the lands into which they part the faces, and the hues that they give."""

from huesandrounds.bodies import check_body
from huesandrounds.checking import check_edge, is_edge, is_edge_row, is_face_row
from huesandrounds.errors import InvalidEdge, InvalidLand, InvalidTour
from huesandrounds.lines import coverings
from huesandrounds.structure import corner_edges, edge_ends, edge_list, edge_places, lumps, rest_of


def is_round(body, value):
    """Whether any value is a round of a body."""
    check_body(body)
    return is_tour(body, value)


def is_tour(body, value):
    """Whether any value is a round of what is taken to be a body."""
    if not isinstance(value, tuple) or len(value) != 2 * len(body) - 4 or not is_edge_row(body, value):
        return False
    kept = [edge in value for edge in edge_list(body)]
    around = [[at for at in row if kept[at]] for row in corner_edges(body)]
    return all([len(row) == 2 for row in around]) and _is_one_ring(around, edge_ends(body))


def _is_one_ring(around, ends):
    """Whether all corners are on one ring, given the places of two edges at each."""
    here, edge, many = 0, around[0][0], 0
    while here != 0 or many == 0:
        one, other = ends[edge]
        here = other if here == one else one
        one, other = around[here]
        edge = other if edge == one else one
        many = many + 1
    return many == len(around)


def check_tour(body, value):
    """Raises InvalidTour for any value that is no round of the body."""
    if not is_tour(body, value):
        raise InvalidTour("no round of the body")


def check_tour_edge(body, tour, value):
    """Raises InvalidEdge for any value that is no edge of a round."""
    if not is_edge(body, value) or value not in tour:
        raise InvalidEdge("no edge of the round")


def rounds(body):
    """The ascending list of all rounds."""
    check_body(body)
    return round_list(body)


def round_list(body):
    """The ascending list of all rounds of what is taken to be a body."""
    edges = edge_list(body)
    ends = edge_ends(body)
    corners = corner_edges(body)
    found = []
    # What a round leaves out is a pairing.
    for pairing in coverings(body, ()):
        kept = [at not in pairing for at in range(len(edges))]
        if _is_one_ring([[at for at in row if kept[at]] for row in corners], ends):
            found.append(tuple([edge for edge, stays in zip(edges, kept) if stays]))
    return sorted(found)


def count_rounds(body):
    """How many rounds there are."""
    check_body(body)
    return len(round_list(body))


def count_through(body, edge):
    """How many rounds have an edge."""
    check_body(body)
    check_edge(body, edge)
    return len(rounds_through(body, edge))


def rounds_through(body, edge):
    """The ascending list of all rounds that have an edge."""
    return [tour for tour in round_list(body) if edge in tour]


def other_round(body, tour, edge):
    """Any other round that has one of the edges of a round, too."""
    check_body(body)
    check_tour(body, tour)
    check_tour_edge(body, tour, edge)
    return min([other for other in rounds_through(body, edge) if other != tour])


def lands(body, tour):
    """The pair of both lands of a round, that with the face 0 first."""
    check_body(body)
    check_tour(body, tour)
    return lands_by(body, tour)


def lands_by(body, tour):
    """The lands of what is taken to be a round."""
    ties = [() for _ in body]
    for one, other in rest_of(body, tour):
        ties[one] = ties[one] + (other,)
        ties[other] = ties[other] + (one,)
    return tuple(lumps(ties, [True for _ in body]))


def round_by(body, faces):
    """The round whose one land some faces are, or None."""
    check_body(body)
    _check_land(body, faces)
    rim = tuple([edge for edge in edge_list(body) if (edge[0] in faces) != (edge[1] in faces)])
    return rim if is_tour(body, rim) else None


def land_sums(body, faces):
    """The sums of the sides, each number less 2, of some faces, and of all others."""
    check_body(body)
    _check_land(body, faces)
    inside = sum([len(body[face]) - 2 for face in faces])
    return (inside, sum([len(ring) - 2 for ring in body]) - inside)


def _check_land(body, value):
    """Raises InvalidLand for any value that is no ascending tuple of faces, of one at least, and not all."""
    if not is_face_row(body, value) or not 1 <= len(value) < len(body):
        raise InvalidLand("no ascending tuple of one face at least, and not all")


def hues_by(body, tour):
    """The edge hues in which the edges of a round are 0 and 1 by turns, its least edge 0, and all others 2."""
    check_body(body)
    check_tour(body, tour)
    return hues_round(body, tour)


def hues_round(body, tour):
    """What `hues_by` tells of what is taken to be a round."""
    least = edge_places(body)[tour[0]]
    hues = [2 for _ in edge_list(body)]
    for at, step in enumerate(tour_steps(body, tour, edge_ends(body)[least][0], least)):
        hues[step[1]] = at % 2
    return tuple(hues)


def tour_steps(body, tour, corner, edge):
    """A round, walked from a corner along an edge, as a list of pairs of a corner and the edge behind it, by places."""
    ends = edge_ends(body)
    around = corner_edges(body)
    on_tour = [item in tour for item in edge_list(body)]
    steps = [(corner, edge)]
    here = ends[edge][0] + ends[edge][1] - corner
    while here != corner:
        edge = [at for at in around[here] if on_tour[at] and at != edge][0]
        steps.append((here, edge))
        here = ends[edge][0] + ends[edge][1] - here
    return steps
