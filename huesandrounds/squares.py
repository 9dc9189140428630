"""Rectangles that are filled with squares, and those that the flows of a body make."""

from huesandrounds.basics import is_ascending, is_row, is_within
from huesandrounds.bodies import check_body
from huesandrounds.checking import check_edge
from huesandrounds.errors import InvalidFilled
from huesandrounds.structure import edge_list
from huesandrounds.thick import tiles_by
from huesandrounds.webs import plain_weights, push_between, tally
from huesandrounds.wires import flow_row, measure_of

MOST_SIZE = 10 ** 12
MOST_SQUARES = 40


def still(body, gap):
    """The ascending list of all edges whose flow is 0."""
    check_body(body)
    check_edge(body, gap)
    return [edge for edge, flow in zip(edge_list(body), flow_row(body, gap)) if flow == 0]


def rectangle(body, gap):
    """The filled rectangle of the least width and the least height with a gap."""
    check_body(body)
    check_edge(body, gap)
    # With all edges alike, a tile is as high as it is wide.
    width, height, tiles = tiles_by(body, gap, plain_weights(body))
    common = measure_of(flow_row(body, gap))
    squares = [(left // common, top // common, side // common) for left, top, side, _ in tiles]
    return (width // common, height // common, tuple(squares))


def perfect_gaps(body):
    """The ascending list of all gaps whose rectangle is perfect, no edge being still."""
    check_body(body)
    _, rows = tally(body)
    edges = edge_list(body)
    # A still edge has an end that the gap has not; there both other edges have the same flow but for the sign.
    return [gap for gap in edges if _are_unlike(edges, gap, push_between(rows, gap[1], gap[0]))]


def _are_unlike(edges, gap, places):
    """Whether the flows of all edges but the gap, by places of the faces, are unlike without their signs."""
    return is_ascending(sorted([abs(places[edge[1]] - places[edge[0]]) for edge in edges if edge != gap]))


def is_filled(value):
    """Whether any value is a filled rectangle."""
    if not isinstance(value, tuple) or len(value) != 3:
        return False
    width, height, squares = value
    if not is_within(width, 1, MOST_SIZE) or not is_within(height, 1, MOST_SIZE) or not _are_squares(squares):
        return False
    if any([left + side > width or top + side > height for left, top, side in squares]):
        return False
    # Squares within the rectangle that do not lie over one another fill it if they are as great as it together.
    return sum([side * side for _, _, side in squares]) == width * height and _lie_apart(squares)


def _are_squares(value):
    """Whether any value is an ascending tuple of squares, not too many of them."""
    if not isinstance(value, tuple) or not 1 <= len(value) <= MOST_SQUARES:
        return False
    if not all([is_row(item, 3, 0, MOST_SIZE) and item[2] > 0 for item in value]):
        return False
    return is_ascending(value)


def _lie_apart(squares):
    """Whether no two of some ascending squares lie over one another but with their rims."""
    for at, (left, top, side) in enumerate(squares):
        for other_left, other_top, other_side in squares[:at]:
            # The other one begins no farther to the right.
            if left < other_left + other_side and top < other_top + other_side and other_top < top + side:
                return False
    return True


def check_filled(value):
    """Raises InvalidFilled for any value that is no filled rectangle."""
    if not is_filled(value):
        raise InvalidFilled("no filled rectangle")


def is_perfect(filled):
    """Whether a filled rectangle is perfect."""
    check_filled(filled)
    return len(filled[2]) >= 2 and is_ascending(sorted([side for _, _, side in filled[2]]))


def crosses(filled):
    """The ascending list of all crosses."""
    check_filled(filled)
    return cross_list(filled[2])


def cross_list(squares):
    """The ascending list of all points that are corners of four squares."""
    many = {}
    for left, top, side in squares:
        for point in ((left, top), (left, top + side), (left + side, top), (left + side, top + side)):
            many[point] = many.get(point, 0) + 1
    return sorted([point for point in many if many[point] == 4])


def turned(filled):
    """The filled rectangle in which across and down are exchanged."""
    check_filled(filled)
    return (filled[1], filled[0], turned_squares(filled[2]))


def turned_squares(squares):
    """The ascending tuple of squares in which across and down are exchanged."""
    return tuple(sorted([(top, left, side) for left, top, side in squares]))
