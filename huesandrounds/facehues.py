"""Face hues, lots of faces, and what leads between face hues and edge hues."""

from huesandrounds.basics import is_row
from huesandrounds.bodies import check_body
from huesandrounds.checking import check_hue, check_number, check_size
from huesandrounds.edgehues import check_hues
from huesandrounds.errors import InvalidFaceHues
from huesandrounds.extending import FOUR_HUES, face_hues_within, hues_from_zero, mixed
from huesandrounds.structure import edge_list, edge_places, pair, tree_from_zero

MOST_FOR_LIST = 8
MOST_FOR_LOTS = 10
MOST_HUES = 10 ** 12


def is_face_hues(body, value):
    """Whether any value is face hues of a body."""
    check_body(body)
    return are_face_hues(body, value, 4)


def are_face_hues(body, value, many):
    """Whether any value is face hues, by so many hues, of what is taken to be a body."""
    if not is_row(value, len(body), 0, many - 1):
        return False
    return all([value[one] != value[other] for one, other in edge_list(body)])


def check_face_hues(body, value):
    """Raises InvalidFaceHues for any value that is no face hues of the body."""
    if not are_face_hues(body, value, 4):
        raise InvalidFaceHues("no face hues of the body")


def first_face_hues(body):
    """The first face hues, in ascending order."""
    check_body(body)
    # Hues can change names, so the first ones have the hue 0 for the face 0.
    return min(hues_from_zero(body))


def all_face_hues(body):
    """The ascending list of all face hues."""
    check_body(body)
    check_size(body, MOST_FOR_LIST)
    return face_hue_list(body)


def face_hue_list(body):
    """The ascending list of all face hues of what is taken to be a body."""
    return sorted(face_hues_within(body, (FOUR_HUES,) * len(body)))


def lots(body):
    """In how many ways the faces can be parted into 0, 1, 2 and so on up to as many lots as there are faces."""
    check_body(body)
    check_size(body, MOST_FOR_LOTS)
    return lot_counts(body)


def lot_counts(body):
    """What `lots` tells of what is taken to be a body."""
    parted = [()]
    for face in range(len(body)):
        longer = []
        for row in parted:
            near = [row[other] for other in body[face] if other < face]
            # A face goes to a lot that there is, or to one more.
            for lot in range(max(row, default=-1) + 2):
                if lot not in near:
                    longer.append(row + (lot,))
        parted = longer
    sizes = [max(row) + 1 for row in parted]
    return tuple([sizes.count(size) for size in range(len(body) + 1)])


def count_face_hues(body, many):
    """How many face hues by so many hues there are."""
    check_body(body)
    check_number(many, 0, MOST_HUES)
    check_size(body, MOST_FOR_LOTS)
    return count_by(body, many)


def count_by(body, many):
    """What `count_face_hues` tells of what is taken to be a body."""
    total = 0
    ways = 1
    for size, count in enumerate(lot_counts(body)):
        total = total + count * ways
        ways = ways * (many - size)
    return total


def to_edges(body, face_hues):
    """The edge hues of face hues."""
    check_body(body)
    check_face_hues(body, face_hues)
    return mixed(body, face_hues)


def to_faces(body, hues, hue):
    """The face hues that have some edge hues, and a hue for the face 0."""
    check_body(body)
    check_hues(body, hues)
    check_hue(hue, 3)
    return faces_from(body, hues, hue)


def faces_from(body, hues, hue):
    """What `to_faces` tells of what is taken to be right."""
    places = edge_places(body)
    found = {0: hue}
    for ahead, face in tree_from_zero(body):
        found[face] = found[ahead] ^ (hues[places[pair(ahead, face)]] + 1)
    return tuple([found[face] for face in range(len(body))])


def three_hues(body):
    """The first face hues that have no hue 3, or None."""
    check_body(body)
    return min(face_hues_within(body, ((0, 1, 2),) * len(body)), default=None)
