"""Flows, levels and sizes by thicknesses of the edges, and the tiles that they make."""

from huesandrounds.basics import is_row
from huesandrounds.bodies import check_body
from huesandrounds.checking import check_edge
from huesandrounds.errors import InvalidThick
from huesandrounds.structure import edge_list, edge_ways, tree_from_zero
from huesandrounds.wires import levels_by

MOST_THICK = 20


def thick_sizes(body, gap, thick):
    """The pair of the thick width and the thick height with a gap."""
    _check_all(body, gap, thick)
    width, found = levels_by(body, gap, thick)
    return (width, max(found))


def thick_flows(body, gap, thick):
    """The tuple of the thick flows of all edges with a gap."""
    _check_all(body, gap, thick)
    width, found = levels_by(body, gap, thick)
    return _flows_by(body, gap, thick, width, found)


def thick_levels(body, gap, thick):
    """The tuple of the thick levels of all corners with a gap."""
    _check_all(body, gap, thick)
    _, found = levels_by(body, gap, thick)
    return found


def tiled(body, gap, thick):
    """The triple of the thick width, the thick height, and the tuple of all tiles (left, top, wide, high)."""
    _check_all(body, gap, thick)
    return tiles_by(body, gap, thick)


def _check_all(body, gap, thick):
    """The checks of a body, a gap and thicknesses."""
    check_body(body)
    check_edge(body, gap)
    if not is_row(thick, 3 * len(body) - 6, 1, MOST_THICK):
        raise InvalidThick("no thicknesses of the body")


def _flows_by(body, gap, thick, width, found):
    """The thick flows of all edges, given the thick width and the thick levels."""
    drops = [many * (found[head] - found[tail]) for many, (tail, head) in zip(thick, edge_ways(body))]
    return tuple([width if edge == gap else drop for edge, drop in zip(edge_list(body), drops)])


def tiles_by(body, gap, thick):
    """What `tiled` tells of what is taken to be right."""
    width, found = levels_by(body, gap, thick)
    row = _flows_by(body, gap, thick, width, found)
    places = _places_by(body, row, gap[0])
    tiles = []
    for (lesser, greater), flow, (tail, head) in zip(edge_list(body), row, edge_ways(body)):
        if flow != 0 and (lesser, greater) != gap:
            left, top = min(places[lesser], places[greater]), min(found[tail], found[head])
            tiles.append((left, top, abs(flow), abs(found[head] - found[tail])))
    return (width, max(found), tuple(sorted(tiles)))


def _places_by(body, row, first):
    """For each face its place by flows, that of a first one being 0."""
    step = {}
    for (lesser, greater), flow in zip(edge_list(body), row):
        step[(lesser, greater)] = flow
        step[(greater, lesser)] = -flow
    found = {0: 0}
    for ahead, face in tree_from_zero(body):
        found[face] = found[ahead] + step[(ahead, face)]
    return [found[face] - found[first] for face in range(len(body))]
