"""Lots of edges written as integers, one binary figure for each edge; the body is taken to be one."""

from huesandrounds.structure import edge_list


def face_marks(body):
    """For each face the integer of the lot of its edges."""
    marks = [0 for _ in body]
    for at, edge in enumerate(edge_list(body)):
        for face in edge:
            marks[face] = marks[face] | (1 << at)
    return marks


def even_marks(body):
    """A list of the integers of all even lots, each once."""
    found = [0]
    # All lots of faces without the face 0 have unlike rims.
    for mark in face_marks(body)[1:]:
        found = found + [item ^ mark for item in found]
    return found


def many_in(mark):
    """How many edges a lot has, given its integer."""
    return f"{mark:b}".count("1")


def marked_places(mark, many):
    """The ascending tuple of the places, below a number, of the edges of a lot, given its integer."""
    return tuple([at for at in range(many) if (mark >> at) & 1 == 1])


def marked_edges(body, marks):
    """The ascending list of the lots of edges that have some integers."""
    places = edge_list(body)
    rows = sorted([marked_places(mark, len(places)) for mark in marks])
    return [tuple([places[at] for at in row]) for row in rows]


def odd_faces(some):
    """The integer of the lot of all faces that have an odd number of some edges."""
    odd = 0
    for one, other in some:
        odd = odd ^ (1 << one) ^ (1 << other)
    return odd
