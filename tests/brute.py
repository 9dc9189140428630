"""Slow and plain countings by the words of the document, to hold against the program."""

from functools import lru_cache
from itertools import combinations, permutations, product

from tests.support import pair


@lru_cache(maxsize=None)
def _edges(body):
    return tuple(sorted({pair(face, other) for face in range(len(body)) for other in body[face]}))


def edges_of(body):
    return list(_edges(body))


def turned_of(body):
    """All corners, each with its faces a, b, c of which c follows b in the ring of a, a the least one."""
    found = {}
    for face, ring in enumerate(body):
        for at, other in enumerate(ring):
            third = ring[(at + 1) % len(ring)]
            if face == min(face, other, third):
                found[tuple(sorted((face, other, third)))] = (face, other, third)
    return found


@lru_cache(maxsize=None)
def _corners(body):
    return tuple(sorted(turned_of(body)))


def corners_of(body):
    return list(_corners(body))


def edges_at(corner):
    a, b, c = corner
    return [(a, b), (a, c), (b, c)]


@lru_cache(maxsize=None)
def ends_of(body, edge):
    """Both ends of an edge, as a tuple."""
    return tuple(corner for corner in corners_of(body) if edge[0] in corner and edge[1] in corner)


def all_edge_hues(body):
    """All edge hues, laid edge by edge."""
    places = edges_of(body)
    trios = [[places.index(edge) for edge in edges_at(corner)] for corner in corners_of(body)]
    rows = [()]
    for at in range(len(places)):
        near = [item for trio in trios if at in trio for item in trio if item < at]
        rows = [row + (hue,) for row in rows for hue in range(3) if hue not in [row[item] for item in near]]
    return rows


def all_hues_by(body, many):
    """All face hues by so many hues, laid face by face."""
    rows = [()]
    for face in range(len(body)):
        near = [other for other in body[face] if other < face]
        rows = [row + (hue,) for row in rows for hue in range(many) if hue not in [row[item] for item in near]]
    return rows


def all_partings(body):
    """All ways to part the faces into lots without faces that are around one another."""
    ways = [[]]
    for face in range(len(body)):
        longer = []
        for lots in ways:
            for at, lot in enumerate(lots):
                if not any(other in body[face] for other in lot):
                    longer.append(lots[:at] + [lot + [face]] + lots[at + 1:])
            longer.append(lots + [[face]])
        ways = longer
    return ways


def all_pairings(body):
    edges = edges_of(body)
    corners = corners_of(body)
    found = []
    for some in combinations(edges, len(body) - 2):
        if all(sum(edge in some for edge in edges_at(corner)) == 1 for corner in corners):
            found.append(some)
    return found


def all_own_turns(body):
    """All own turns, tried one by one."""
    mirror = tuple(ring[:1] + ring[:0:-1] for ring in body)
    found = []
    for turn in permutations(range(len(body))):
        rings = [None] * len(body)
        for face, ring in enumerate(body):
            row = [turn[item] for item in ring]
            at = row.index(min(row))
            rings[turn[face]] = tuple(row[at:] + row[:at])
        if tuple(rings) in (body, mirror):
            found.append((turn, tuple(rings)))
    return found


def is_ringless_course(body, course):
    """Whether no face leads back to itself, by going on from each face as long as it goes."""
    leads = {face: set() for face in range(len(body))}
    for (low, high), way in zip(edges_of(body), course):
        leads[low if way == 1 else high].add(high if way == 1 else low)
    for start in range(len(body)):
        met = set()
        ahead = list(leads[start])
        while ahead:
            face = ahead.pop()
            if face == start:
                return False
            if face not in met:
                met.add(face)
                ahead.extend(leads[face])
    return True


def sources_of(body, course):
    """All faces to which no edge leads."""
    aims = {high if way == 1 else low for (low, high), way in zip(edges_of(body), course)}
    return [face for face in range(len(body)) if face not in aims]


def courses(body):
    return product((1, -1), repeat=len(edges_of(body)))


def classes(starts, moves):
    """The lots into which all values fall that moves lead into one another."""
    left = set(starts)
    found = []
    while left:
        lot = set()
        ahead = [min(left)]
        while ahead:
            here = ahead.pop()
            if here not in lot:
                lot.add(here)
                ahead.extend(moves(here))
        found.append(lot)
        left -= lot
    return found


def line_count(body, pairing, drawing):
    """How many lines a drawing has, each one walked from edge to edge."""
    ways = dict(zip(pairing, drawing))
    left = [edge for edge in edges_of(body) if edge not in ways]
    many = 0
    while left:
        many += 1
        edge = start = left[0]
        corner = ends_of(body, edge)[1]
        while True:
            left.remove(edge)
            doubled = [item for item in edges_at(corner) if item in ways][0]
            there = [item for item in ends_of(body, doubled) if item != corner][0]
            face = [item for item in edge if item in doubled][0]
            ahead = [item for item in edges_at(there) if item != doubled]
            if ways[doubled] == 0:
                edge = [item for item in ahead if face in item][0]
            else:
                edge = [item for item in ahead if face not in item][0]
            corner = [item for item in ends_of(body, edge) if item != there][0]
            if edge == start and edge not in left:
                break
    return many


@lru_cache(maxsize=None)
def near_of(body, corner):
    """The corners at the other ends of the edges of a corner, as a list that is only read."""
    return [other for edge in edges_at(corner) for other in ends_of(body, edge) if other != corner]


def all_paths(body, start):
    """All tuples of all corners, each next to the one ahead of it, from a corner on."""
    many = len(corners_of(body))
    found = []
    ahead = [(start,)]
    while ahead:
        path = ahead.pop()
        if len(path) == many:
            found.append(path)
        ahead.extend(path + (other,) for other in near_of(body, path[-1]) if other not in path)
    return found


def edges_on(path):
    """The ascending tuple of the edges between corners that follow one another."""
    return tuple(sorted(tuple(sorted(set(one) & set(other))) for one, other in zip(path, path[1:])))


def all_rounds(body):
    return list(_rounds(body))


@lru_cache(maxsize=None)
def _rounds(body):
    start = corners_of(body)[0]
    paths = [path for path in all_paths(body, start) if start in near_of(body, path[-1])]
    return sorted({edges_on(path + (start,)) for path in paths})


def lands_of(body, tour):
    """Both lands of a round, each gone through from its least face."""
    found = []
    while sum(map(len, found)) < len(body):
        ahead = [min(face for face in range(len(body)) if not any(face in land for land in found))]
        land = set()
        while ahead:
            face = ahead.pop()
            if face not in land:
                land.add(face)
                ahead.extend(other for other in body[face] if pair(face, other) not in tour)
        found.append(tuple(sorted(land)))
    return tuple(found)


@lru_cache(maxsize=None)
def all_rings(body):
    """All rings of edges, as lots of edges of which each corner has none or two, and which are one; only read."""
    found = []
    for many in range(3, len(edges_of(body)) + 1):
        for some in combinations(edges_of(body), many):
            at = [sum(edge in some for edge in edges_at(corner)) for corner in corners_of(body)]
            if set(at) <= {0, 2} and len(classes(some, lambda edge: tied_to(body, edge, some))) == 1:
                found.append(some)
    return found


def tied_to(body, edge, some):
    """Those of some edges that have a corner with an edge."""
    return [other for corner in ends_of(body, edge) for other in edges_at(corner) if other in some]


def lots_by(places, ties):
    """For each place a name of its lot, the same for places that ties lead to one another."""
    lot = {place: place for place in places}
    for one, other in ties:
        gone, kept = lot[one], lot[other]
        lot = {place: kept if name == gone else name for place, name in lot.items()}
    return lot


def places_of(body, on):
    return corners_of(body) if on == "corners" else list(range(len(body)))


def ties_of(body, on, some):
    """The pairs of places of a web that some edges tie."""
    return [ends_of(body, edge) if on == "corners" else edge for edge in some]


def is_spanning(body, on, some):
    """Whether some edges tie all places of a web, in one way alone."""
    places = places_of(body, on)
    return len(some) == len(places) - 1 and len(set(lots_by(places, ties_of(body, on, some)).values())) == 1


@lru_cache(maxsize=None)
def all_trees(body, on="corners"):
    """All trees of edges, or of faces, in ascending order, as a list that is only read."""
    many = len(places_of(body, on)) - 1
    return [some for some in combinations(edges_of(body), many) if is_spanning(body, on, some)]


def way_in(body, tree, start, aim):
    """The list of the edges along which one comes from one corner to another one in a tree."""
    ahead = [(start, [])]
    while ahead:
        here, way = ahead.pop()
        if here == aim:
            return way
        for edge in edges_at(here):
            if edge in tree and edge not in way[-1:]:
                there = [corner for corner in ends_of(body, edge) if corner != here][0]
                ahead.append((there, way + [edge]))
    return None


def begin_and_end(body, edge):
    """The corners where an edge begins and where it ends."""
    one, other = edge
    ring = body[one]
    at = ring.index(other)
    return tuple(sorted((one, other, ring[at - 1]))), tuple(sorted((one, other, ring[(at + 1) % len(ring)])))
