"""Checks of arguments that many functions take; the body has been checked ahead."""

from huesandrounds.basics import is_ascending, is_row, is_within
from huesandrounds.errors import (InvalidCorner, InvalidCorners, InvalidEdge, InvalidEdges, InvalidFace, InvalidFaces,
                                  InvalidHue, InvalidNumber, TooMany)
from huesandrounds.structure import corner_list


def is_edge(body, value):
    """Whether any value is an edge of the body."""
    return is_row(value, 2, 0, len(body) - 1) and value[0] < value[1] and value[1] in body[value[0]]


def is_edge_row(body, value):
    """Whether any value is an ascending tuple of edges of the body."""
    if not isinstance(value, tuple) or not all([is_edge(body, item) for item in value]):
        return False
    return is_ascending(value)


def is_face_row(body, value):
    """Whether any value is an ascending tuple of faces of the body."""
    if not isinstance(value, tuple) or not is_row(value, len(value), 0, len(body) - 1):
        return False
    return is_ascending(value)


def is_corner_row(body, value):
    """Whether any value is an ascending tuple of corners of the body."""
    if not isinstance(value, tuple) or not all([is_row(item, 3, 0, len(body) - 1) for item in value]):
        return False
    found = corner_list(body)
    return all([item in found for item in value]) and is_ascending(value)


def check_face(body, value):
    """Raises InvalidFace for any value that is no face."""
    if not is_within(value, 0, len(body) - 1):
        raise InvalidFace("no face of the body")


def check_faces(body, value):
    """Raises InvalidFaces for any value that is no lot of faces, perhaps of none."""
    if not is_face_row(body, value):
        raise InvalidFaces("no lot of faces of the body")


def check_edge(body, value):
    """Raises InvalidEdge for any value that is no edge."""
    if not is_edge(body, value):
        raise InvalidEdge("no edge of the body")


def check_edges(body, value):
    """Raises InvalidEdges for any value that is no ascending tuple of edges, perhaps of none."""
    if not is_edge_row(body, value):
        raise InvalidEdges("no ascending tuple of edges of the body")


def check_corner(body, value):
    """Raises InvalidCorner for any value that is no corner."""
    if not is_row(value, 3, 0, len(body) - 1) or value not in corner_list(body):
        raise InvalidCorner("no corner of the body")


def check_corners(body, value):
    """Raises InvalidCorners for any value that is no lot of corners, perhaps of none."""
    if not is_corner_row(body, value):
        raise InvalidCorners("no lot of corners of the body")


def check_number(value, low, high):
    """Raises InvalidNumber for any value that is no integer from low to high."""
    if not is_within(value, low, high):
        raise InvalidNumber(f"no integer from {low} to {high}")


def check_hue(value, high):
    """Raises InvalidHue for any value that is no integer from 0 to high."""
    if not is_within(value, 0, high):
        raise InvalidHue(f"no hue from 0 to {high}")


def check_other_hue(value, own, high):
    """Raises InvalidHue for any value that is no integer from 0 to high, and for the own hue."""
    check_hue(value, high)
    if value == own:
        raise InvalidHue("the same hue")


def check_size(body, limit):
    """Raises TooMany for a body of more faces than the limit."""
    if len(body) > limit:
        raise TooMany(limit)
