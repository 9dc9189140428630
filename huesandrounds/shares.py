"""The drop between two corners."""

from math import gcd

from huesandrounds.bodies import check_body
from huesandrounds.checking import check_corner
from huesandrounds.structure import corner_list
from huesandrounds.webs import CORNERS, plain_weights, trees_apart, web_size, web_ties


def drop(body, corner, last):
    """The drop between two corners, as a fraction (top, below)."""
    check_body(body)
    check_corner(body, corner)
    check_corner(body, last)
    corners = corner_list(body)
    at = corners.index(corner)
    ties = web_ties(body, CORNERS)
    total, found = trees_apart(ties, plain_weights(body), web_size(body, CORNERS), corners.index(last), at)
    common = gcd(total, found[at])
    return (found[at] // common, total // common)
