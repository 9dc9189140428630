"""The order in which a body is renumbered, and what comes of it; the body is taken to be one."""

from huesandrounds.structure import begun


def new_order(body, start, after, turning):
    """The faces in the order of the numbers that they get if the body is renumbered.

    Each face from the third one on meets two earlier ones in a corner.
    """
    return [face for face, _ in _new_rows(body, start, after, turning)]


def in_new_order(body, start, after, turning):
    """The body renumbered, all being taken to be right."""
    rows = _new_rows(body, start, after, turning)
    number = {}
    for at, (face, _) in enumerate(rows):
        number[face] = at
    return tuple([tuple([number[item] for item in row]) for _, row in rows])


def _new_rows(body, start, after, turning):
    """The faces in the order of their new numbers, each with the tuple of those around it in the way of turning.

    This begins with the face from which the face got its number: that is the first one in the order of all around it.
    """
    order = [start, after]
    source = {start: after, after: start}
    rows = []
    at = 0
    while at < len(order):
        face = order[at]
        ahead = source[face]
        others = behind(body[face], ahead, turning)
        for met in others:
            if met not in source:
                source[met] = face
                order.append(met)
        rows.append((face, (ahead,) + others))
        at = at + 1
    return rows


def behind(ring, item, turning):
    """All other items of a ring, in a way of turning, beginning behind one of them."""
    at = ring.index(item)
    if turning == 1:
        return ring[at + 1:] + ring[:at]
    return ring[:at][::-1] + ring[at + 1:][::-1]


def mirror_of(body):
    """The body with all rings the other way round."""
    return tuple([begun(ring[::-1]) for ring in body])
