"""Faces, edges and corners of a body, and what is tied to what; the body is taken to be one."""


def pair(one, other):
    """The edge of two faces."""
    return (one, other) if one < other else (other, one)


def begun(ring):
    """A ring, turned so that it begins with its least item."""
    at = ring.index(min(ring))
    return ring[at:] + ring[:at]


def replaced(row, at, item):
    """A tuple with another item at a place."""
    return row[:at] + (item,) + row[at + 1:]


def followers(body):
    """For each two faces (one, other) around one another, the face behind the other one in the ring of the one."""
    follow = {}
    for face in range(len(body)):
        ring = body[face]
        for at in range(len(ring)):
            follow[(face, ring[at - 1])] = ring[at]
    return follow


def rings_of(follow, faces):
    """The body of so many faces that has these followers."""
    first = {}
    for face, other in follow:
        if face not in first or other < first[face]:
            first[face] = other
    return tuple([ring_of(follow, face, first[face]) for face in range(faces)])


def ring_of(follow, face, first):
    """The ring of a face by followers, from its first item on."""
    ring = [first]
    item = follow[(face, first)]
    while item != first:
        ring.append(item)
        item = follow[(face, item)]
    return tuple(ring)


def edge_list(body):
    """The ascending list of all edges."""
    return [(face, other) for face in range(len(body)) for other in sorted(body[face]) if face < other]


def rest_of(body, some):
    """The ascending tuple of all edges but some."""
    return tuple([edge for edge in edge_list(body) if edge not in some])


def edge_places(body):
    """For each edge its place in the list of all edges."""
    places = {}
    for at, edge in enumerate(edge_list(body)):
        places[edge] = at
    return places


def turned_by_corner(body):
    """For each corner its three faces as they follow in turn, from the least one on."""
    turned = {}
    follow = followers(body)
    for face, other in follow:
        third = follow[(face, other)]
        if face < other and face < third:
            turned[(face, min(other, third), max(other, third))] = (face, other, third)
    return turned


def corner_list(body):
    """The ascending list of all corners."""
    return sorted(list(turned_by_corner(body)))


def turned_corners(body):
    """For each corner, in ascending order, its faces as they follow in turn."""
    turned = turned_by_corner(body)
    return [turned[corner] for corner in sorted(list(turned))]


def turned_edges(body):
    """For each corner, in ascending order, the places of its three edges as they follow in turn."""
    places = edge_places(body)
    return [(places[pair(a, b)], places[pair(b, c)], places[pair(c, a)]) for a, b, c in turned_corners(body)]


def corner_edges(body):
    """For each corner, in ascending order, the places of its three edges, ascending."""
    places = edge_places(body)
    return [(places[(a, b)], places[(a, c)], places[(b, c)]) for a, b, c in corner_list(body)]


def edge_ends(body):
    """For each edge, in ascending order, the ascending pair of the places of its two ends."""
    ends = [() for _ in edge_list(body)]
    for at, row in enumerate(corner_edges(body)):
        for edge in row:
            ends[edge] = ends[edge] + (at,)
    return ends


def edge_ways(body):
    """For each edge, in ascending order, the places of the corners where it begins and where it ends.

    Around its lesser face one goes along it so.
    """
    number = {}
    for at, corner in enumerate(corner_list(body)):
        number[corner] = at
    follow = followers(body)
    ways = []
    for one, other in edge_list(body):
        # In the ring of the other face, the one behind this face is the one ahead of the other in this ring.
        start, end = sorted([one, other, follow[(other, one)]]), sorted([one, other, follow[(one, other)]])
        ways.append((number[tuple(start)], number[tuple(end)]))
    return ways


def corner_ties(body):
    """For each corner, in ascending order, the places of the corners at the other ends of its three edges."""
    ends = edge_ends(body)
    around = corner_edges(body)
    return [tuple([ends[edge][0] + ends[edge][1] - at for edge in row]) for at, row in enumerate(around)]


def edge_ties(body):
    """For each edge, in ascending order, the places of all edges that have a corner with it."""
    ties = [() for _ in edge_list(body)]
    for a, b, c in corner_edges(body):
        ties[a] = ties[a] + (b, c)
        ties[b] = ties[b] + (a, c)
        ties[c] = ties[c] + (a, b)
    return ties


def reach(ties, kept, start):
    """The ascending tuple of all kept places to which ties between kept places lead from one of them."""
    met = {start: True}
    queue = [start]
    at = 0
    while at < len(queue):
        here = queue[at]
        for place in ties[here]:
            if kept[place] and place not in met:
                met[place] = True
                queue.append(place)
        at = at + 1
    return tuple(sorted(queue))


def lumps(ties, kept):
    """The ascending list of the lots into which the kept places fall, tied ones in one lot."""
    met = {}
    found = []
    for start in range(len(kept)):
        if kept[start] and start not in met:
            lump = reach(ties, kept, start)
            for place in lump:
                met[place] = True
            found.append(lump)
    return found


def count_tied(links):
    """Into how many lots the keys of a dict fall, given for each one a list of those tied to it."""
    places = {}
    for at, key in enumerate(list(links)):
        places[key] = at
    ties = [[places[other] for other in links[key]] for key in links]
    return len(lumps(ties, [True for _ in ties]))


def ways_from(links, start):
    """For each key to which steps lead from one, a tuple of as few as do; a dict tells pairs (step, key)."""
    ways = {start: ()}
    queue = [start]
    at = 0
    while at < len(queue):
        here = queue[at]
        for step, there in links[here]:
            if there not in ways:
                ways[there] = ways[here] + (step,)
                queue.append(there)
        at = at + 1
    return ways


def tree_from_zero(body):
    """For each face but the face 0 a pair (ahead, face), in an order in which each face ahead is 0 or has come."""
    met = {0: True}
    found = []
    queue = [0]
    at = 0
    while at < len(queue):
        ahead = queue[at]
        for face in body[ahead]:
            if face not in met:
                met[face] = True
                found.append((ahead, face))
                queue.append(face)
        at = at + 1
    return found
