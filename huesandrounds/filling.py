"""Lines of filled rectangles, and the bodies that these tell."""

from huesandrounds.bodies import is_body
from huesandrounds.squares import check_filled, cross_list, turned_squares
from huesandrounds.structure import begun


def level_lines(filled):
    """The ascending list of all level lines."""
    check_filled(filled)
    return _lines_of(turned_squares(filled[2]))


def upright_lines(filled):
    """The ascending list of all upright lines."""
    check_filled(filled)
    return _lines_of(filled[2])


def _lines_of(squares):
    """The ascending list of all upright lines of squares that fill a rectangle."""
    stretches = sorted([(at, top, top + side) for left, top, side in squares for at in (left, left + side)])
    found = []
    for at, top, bottom in stretches:
        # Stretches that touch, or lie over one another, are one line.
        if found and found[-1][0] == at and found[-1][2] >= top:
            found[-1] = (at, found[-1][1], max(bottom, found[-1][2]))
        else:
            found.append((at, top, bottom))
    return found


def told_back(filled):
    """The pair of the body that a filled rectangle tells, and of its gap, or None."""
    check_filled(filled)
    squares = filled[2]
    if cross_list(squares):
        return None
    lines = _lines_of(squares)
    rings = [[] for _ in lines]
    last = len(lines) - 1
    rings[0] = [last]
    rings[last] = [0]
    downward = sorted([(top, left, left + side) for left, top, side in squares])
    ties = [(_line_at(lines, begin, top), _line_at(lines, end, top)) for top, begin, end in downward]
    for begin, end in ties:
        rings[begin] = rings[begin] + [end]
    for begin, end in ties[::-1]:
        rings[end] = rings[end] + [begin]
    body = tuple([begun(tuple(ring)) for ring in rings])
    return (body, (0, last)) if is_body(body) else None


def _line_at(lines, at, top):
    """The place of the upright line on which a square has a side, given where it stands and where it is highest."""
    return [place for place, line in enumerate(lines) if line[0] == at and line[1] <= top < line[2]][0]
