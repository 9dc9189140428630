"""Sums over all lots of corners, or of faces, by bonds of the edges."""

from huesandrounds.basics import is_row
from huesandrounds.bodies import check_body
from huesandrounds.errors import InvalidBonds
from huesandrounds.ordering import new_order
from huesandrounds.structure import edge_places, pair

MOST_BOND = 1000


def _are_bonds(body, value):
    """Whether any value is bonds of what is taken to be a body."""
    if not isinstance(value, tuple) or len(value) != 3 * len(body) - 6:
        return False
    return all([is_row(item, 2, -MOST_BOND, MOST_BOND) for item in value])


def _check_bonds(body, value):
    """Raises InvalidBonds for any value that is no bonds of the body."""
    if not _are_bonds(body, value):
        raise InvalidBonds("no bonds of the body")


def corner_sum(body, bonds):
    """The sum over corners by bonds."""
    check_body(body)
    _check_bonds(body, bonds)
    # The sum over faces by sums and differences is so many times as great, and has far fewer lots.
    return _face_total(body, _turned(bonds)) >> (len(body) - 1)


def face_sum(body, bonds):
    """The sum over faces by bonds."""
    check_body(body)
    _check_bonds(body, bonds)
    return _face_total(body, bonds)


def turned_bonds(body, bonds):
    """The tuple of the pairs (same + other, same - other)."""
    check_body(body)
    _check_bonds(body, bonds)
    found = _turned(bonds)
    _check_bonds(body, found)
    return found


def _turned(bonds):
    """What `turned_bonds` tells, also beyond the bounds of bonds."""
    return tuple([(same + other, same - other) for same, other in bonds])


def _face_total(body, bonds):
    """The sum over all lots of faces, also by pairs beyond the bounds of bonds.

    Faces are laid one by one, and lots that agree in all faces that are next to some to come are as one.
    """
    order = new_order(body, 0, body[0][0], 1)
    places = edge_places(body)
    near = []
    sums = {(): 1}
    for at, face in enumerate(order):
        tied = [(place, bonds[places[pair(other, face)]]) for place, other in enumerate(near) if other in body[face]]
        longer = near + [face]
        stays = [place for place, other in enumerate(longer) if any([item in body[other] for item in order[at + 1:]])]
        fresh = {}
        for lot in sums:
            for inside in (0, 1):
                worth = sums[lot]
                for place, bond in tied:
                    worth = worth * bond[lot[place] ^ inside]
                laid = lot + (inside,)
                kept = tuple([laid[place] for place in stays])
                fresh[kept] = fresh.get(kept, 0) + worth
        sums = fresh
        near = [longer[place] for place in stays]
    return sums[()]
