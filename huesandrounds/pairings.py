"""How many pairings there are, which one stands where, and the rings that they leave."""

from math import gcd

from huesandrounds.basics import is_within
from huesandrounds.bodies import check_body
from huesandrounds.checking import check_corner, check_edge
from huesandrounds.edgehues import check_hues, edges_with, rings_outside
from huesandrounds.errors import InvalidIndex
from huesandrounds.lines import check_pairing, coverings, pairing_list
from huesandrounds.structure import corner_edges, corner_list, edge_ends, edge_list


def count_pairings(body):
    """How many pairings there are."""
    check_body(body)
    return len(pairing_list(body))


def edge_share(body, edge):
    """The number of pairings that have an edge, divided by that of all, as a fraction (top, below)."""
    check_body(body)
    check_edge(body, edge)
    found = pairing_list(body)
    having = len([row for row in found if edge in row])
    common = gcd(having, len(found))
    return (having // common, len(found) // common)


def pairing_at(body, index):
    """The pairing with an index in the ascending list of all."""
    check_body(body)
    found = pairing_list(body)
    if not is_within(index, 0, len(found) - 1):
        raise InvalidIndex("no index of a pairing")
    return found[index]


def pairing_index(body, pairing):
    """The index of a pairing in the ascending list of all."""
    check_body(body)
    check_pairing(body, pairing)
    return pairing_list(body).index(pairing)


def pairings_at(body, corner):
    """How many pairings have each edge of a corner, and how many there are without the corner and those next to it."""
    check_body(body)
    check_corner(body, corner)
    return pairings_by(body, corner)


def pairings_by(body, corner):
    """What `pairings_at` tells of what is taken to be a corner."""
    at = corner_list(body).index(corner)
    around = corner_edges(body)[at]
    found = coverings(body, ())
    having = tuple([len([row for row in found if edge in row]) for edge in around])
    ends = edge_ends(body)
    near = tuple([ends[edge][0] + ends[edge][1] - at for edge in around])
    return having + (len(coverings(body, near + (at,))),)


def rings_left(body, pairing):
    """The ascending list of the rings that a pairing leaves."""
    check_body(body)
    check_pairing(body, pairing)
    return rings_beside(body, pairing)


def rings_beside(body, pairing):
    """The ascending list of the rings that what is taken to be a pairing leaves."""
    return rings_outside(body, [edge in pairing for edge in edge_list(body)])


def hues_borne(body, pairing):
    """How many edge hues a pairing bears."""
    check_body(body)
    check_pairing(body, pairing)
    rings = rings_beside(body, pairing)
    if any([len(ring) % 2 == 1 for ring in rings]):
        return 0
    # Each ring can have the hues 0 and 1 by turns in two ways.
    return 1 << len(rings)


def pairings_of(body, hues):
    """The triple of the pairings of all edges with the hue 0, 1 and 2."""
    check_body(body)
    check_hues(body, hues)
    return tuple([edges_with(body, hues, hue) for hue in range(3)])
