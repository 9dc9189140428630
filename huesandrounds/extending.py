"""Face hues by four hues, laid face by face, and the edge hues that they have; the body is taken to be one."""

from huesandrounds.ordering import new_order
from huesandrounds.structure import edge_list

FOUR_HUES = (0, 1, 2, 3)


def face_hues_within(body, allowed):
    """A list of all face hues in which each face has one of the hues that are allowed for it."""
    order = new_order(body, 0, body[0][0], 1)
    laid = [()]
    for at, face in enumerate(order):
        ahead = [place for place in range(at) if order[place] in body[face]]
        longer = []
        for hues in laid:
            near = [hues[place] for place in ahead]
            for hue in allowed[face]:
                if hue not in near:
                    longer.append(hues + (hue,))
        laid = longer
    places = [order.index(face) for face in range(len(body))]
    return [tuple([hues[place] for place in places]) for hues in laid]


def hues_from_zero(body):
    """A list of all face hues in which the face 0 has the hue 0: one for each edge hues."""
    return face_hues_within(body, ((0,),) + (FOUR_HUES,) * (len(body) - 1))


def mixed(body, face_hues):
    """The edge hues of face hues."""
    # The mix of two hues from 0 to 3 is what their binary figures make without carrying.
    return tuple([(face_hues[one] ^ face_hues[other]) - 1 for one, other in edge_list(body)])
