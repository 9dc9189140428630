"""The order in which a body is renumbered, and what comes of it; the body is taken to be one."""

from huesandrounds.structure import begun


def new_order(body, start, after, turning):
    """The faces in the order of the numbers that they get if the body is renumbered.

    Each face from the third one on meets two earlier ones in a corner.
    """
    order = [start, after]
    source = {start: after, after: start}
    at = 0
    while at < len(order):
        face = order[at]
        ahead = source[face]
        for met in behind(body[face], ahead, turning):
            if met not in source:
                source[met] = face
                order.append(met)
        at = at + 1
    return order


def behind(ring, item, turning):
    """All other items of a ring, in a way of turning, beginning behind one of them."""
    at = ring.index(item)
    if turning == 1:
        return ring[at + 1:] + ring[:at]
    return ring[:at][::-1] + ring[at + 1:][::-1]


def in_order(body, order, turning):
    """The body in which each face has its place in an order as its number, turning so."""
    number = {}
    for at, face in enumerate(order):
        number[face] = at
    return tuple([begun(tuple([number[item] for item in body[face][::turning]])) for face in order])


def mirror_of(body):
    """The body with all rings the other way round."""
    return in_order(body, list(range(len(body))), -1)
