"""Roads over all corners, their turns, and the walks of roads that lead from round to round."""

from huesandrounds.basics import is_row
from huesandrounds.bodies import check_body
from huesandrounds.checking import check_corner, check_edge, check_size, is_edge_row
from huesandrounds.errors import InvalidCorner, InvalidRoad
from huesandrounds.rounds import check_tour, check_tour_edge, is_tour, rounds_through
from huesandrounds.structure import corner_edges, corner_list, corner_ties, edge_list, edge_ties, lumps
from huesandrounds.walks import walk_places

MOST_FOR_ROADS = 8


def is_road(body, value):
    """Whether any value is a road of a body."""
    check_body(body)
    return _is_way(body, value)


def _is_way(body, value):
    """Whether any value is a road of what is taken to be a body."""
    if not is_edge_row(body, value):
        return False
    if sorted(_degrees(body, value)) != [1, 1] + [2 for _ in range(2 * len(body) - 6)]:
        return False
    return len(lumps(edge_ties(body), [edge in value for edge in edge_list(body)])) == 1


def _degrees(body, some):
    """For each corner how many of some edges it has."""
    kept = [edge in some for edge in edge_list(body)]
    return [len([at for at in row if kept[at]]) for row in corner_edges(body)]


def _check_road(body, value):
    """Raises InvalidRoad for any value that is no road of the body."""
    if not _is_way(body, value):
        raise InvalidRoad("no road of the body")


def ends(body, road):
    """The ascending pair of the ends of a road."""
    check_body(body)
    _check_road(body, road)
    return _ends_of(body, road)


def _ends_of(body, road):
    """The ends of what is taken to be a road."""
    return tuple([corner for corner, many in zip(corner_list(body), _degrees(body, road)) if many == 1])


def closed(body, road):
    """The round that a road is without one edge, or None."""
    check_body(body)
    _check_road(body, road)
    one, other = _ends_of(body, road)
    tour = tuple(sorted(road + (_between(one, other),)))
    return tour if is_tour(body, tour) else None


def _between(one, other):
    """The faces that two corners have in common: their edge, if they are the ends of one."""
    return tuple([face for face in one if face in other])


def turns(body, road, corner):
    """The ascending list of the roads behind all turns at one of the ends of a road."""
    check_body(body)
    _check_road(body, road)
    _check_end(body, _ends_of(body, road), corner)
    path = _path_to(body, road, corner)
    steps = [there for there in corner_ties(body)[path[-1]] if there not in (path[-2], path[0])]
    return sorted([_road_along(body, _rotated(path, there)) for there in steps])


def _check_end(body, found, value):
    """Raises InvalidCorner for any value that is none of the two ends that are found."""
    if not is_row(value, 3, 0, len(body) - 1) or value not in found:
        raise InvalidCorner("no corner at an end")


def _path_to(body, road, corner):
    """The list of the places of all corners along a road, up to one of its ends."""
    corners = corner_list(body)
    near = corner_ties(body)
    path = [corners.index(corner)]
    while len(path) < len(corners):
        here = path[-1]
        tied = [there for there in near[here] if _between(corners[here], corners[there]) in road]
        path.append([there for there in tied if there not in path[-2:]][0])
    return path[::-1]


def _rotated(path, there):
    """The places along a road behind the turn at its last corner with the edge to another one."""
    at = path.index(there)
    return path[:at + 1] + path[:at:-1]


def _road_along(body, path):
    """The road along the places of all corners."""
    corners = corner_list(body)
    steps = [(corners[path[at]], corners[path[at + 1]]) for at in range(len(path) - 1)]
    return tuple(sorted([_between(one, other) for one, other in steps]))


def count_roads(body, corner, last):
    """How many roads have two corners as their ends."""
    check_body(body)
    check_corner(body, corner)
    check_corner(body, last)
    check_size(body, MOST_FOR_ROADS)
    at = corner_list(body).index(last)
    return len([path for path in _paths_from(body, corner) if path[-1] == at])


def roads(body, corner):
    """The ascending list of all roads that have a corner as an end."""
    check_body(body)
    check_corner(body, corner)
    check_size(body, MOST_FOR_ROADS)
    return sorted([_road_along(body, path) for path in _paths_from(body, corner)])


def _paths_from(body, corner):
    """A list of the places of all corners along each road from a corner."""
    near = corner_ties(body)
    paths = [(corner_list(body).index(corner),)]
    for _ in range(len(near) - 1):
        paths = [path + (there,) for path in paths for there in near[path[-1]] if there not in path]
    return paths


def road_walk(body, tour, edge, corner):
    """The walk of roads from a round, by one of its edges and a corner at an end of it."""
    _check_start(body, tour, edge, corner)
    return tuple([_road_along(body, path) for path in _paths_on(body, tour, edge, corner)])


def walked(body, tour, edge, corner):
    """The round to which the walk of roads leads."""
    _check_start(body, tour, edge, corner)
    return _walked_to(body, tour, edge, corner)


def _check_start(body, tour, edge, corner):
    """All checks of what takes a round, one of its edges, and a corner at an end of this."""
    check_body(body)
    check_tour(body, tour)
    check_tour_edge(body, tour, edge)
    _check_end(body, _corners_at(body, edge), corner)


def _corners_at(body, edge):
    """Both ends of an edge."""
    return [corner for corner in corner_list(body) if edge[0] in corner and edge[1] in corner]


def _paths_on(body, tour, edge, corner):
    """The places along each road of a walk of roads, beginning with the corner that stays."""
    near = corner_ties(body)
    path = walk_places(body, tour, corner, edge)
    paths = [path]
    there = _other_way(near, path, path[0])
    while there != path[0]:
        path = _rotated(path, there)
        paths.append(path)
        # The edge that went led from the new end to where the last turn came.
        there = _other_way(near, path, there)
    return paths


def _other_way(near, path, gone):
    """Where the third edge at the last corner of a road leads, given where the one leads that has just gone."""
    return [there for there in near[path[-1]] if there not in (path[-2], gone)][0]


def _walked_to(body, tour, edge, corner):
    """What `walked` tells of what is taken to be right."""
    path = _paths_on(body, tour, edge, corner)[-1]
    corners = corner_list(body)
    return tuple(sorted(_road_along(body, path) + (_between(corners[path[0]], corners[path[-1]]),)))


def partners(body, edge, corner):
    """The ascending list of the pairs of rounds that have an edge, and lead to one another by walks of roads."""
    check_body(body)
    check_edge(body, edge)
    _check_end(body, _corners_at(body, edge), corner)
    check_size(body, MOST_FOR_ROADS)
    found = rounds_through(body, edge)
    return sorted({tuple(sorted([tour, _walked_to(body, tour, edge, corner)])) for tour in found})
