"""Moves of chips along edges, and loads on corners and on faces that belong together."""

from huesandrounds.basics import is_row
from huesandrounds.bodies import check_body
from huesandrounds.chips import check_even_load, low_load
from huesandrounds.errors import InvalidMoves
from huesandrounds.structure import edge_list, edge_ways
from huesandrounds.webs import CORNERS, FACES, web_size

MOST_MOVES = 10 ** 6


def moved(body, moves):
    """The pair of what nothing becomes by moves, on corners and on faces."""
    check_body(body)
    if not is_row(moves, 3 * len(body) - 6, -MOST_MOVES, MOST_MOVES):
        raise InvalidMoves("no moves on the body")
    return (_load_by(body, CORNERS, moves), _load_by(body, FACES, moves))


def _ways_on(body, on):
    """For each edge the place that loses by a move along it, and the one that gets what it loses."""
    if on == CORNERS:
        return edge_ways(body)
    return [(other, one) for one, other in edge_list(body)]


def _load_by(body, on, moves):
    """What nothing becomes by moves on a web."""
    held = [0 for _ in range(web_size(body, on))]
    for way, many in zip(_ways_on(body, on), moves):
        loser, winner = way
        held[loser] = held[loser] - many
        held[winner] = held[winner] + many
    return tuple(held)


def carried(body, load):
    """The low load on faces that belongs together with a load on corners with the sum 0."""
    check_body(body)
    check_even_load(body, CORNERS, load)
    return low_load(body, FACES, _load_by(body, FACES, _moves_to(body, CORNERS, load)))


def carried_back(body, load):
    """The low load on corners that belongs together with a load on faces with the sum 0."""
    check_body(body)
    check_even_load(body, FACES, load)
    return low_load(body, CORNERS, _load_by(body, CORNERS, _moves_to(body, FACES, load)))


def _moves_to(body, on, load):
    """Any moves by which nothing becomes a load with the sum 0 on a web."""
    ways = _ways_on(body, on)
    moves = [0 for _ in ways]
    held = list(load)
    # Each place but the first one gets what it has from the one by which it has been met.
    for at, place, there in _steps_out(ways, len(load))[::-1]:
        many = held[there]
        moves[at] = many if ways[at] == (place, there) else -many
        held[place] = held[place] + many
    return tuple(moves)


def _steps_out(ways, size):
    """For each place but the place 0 a triple of an edge, the place that it comes from, which has come, and it."""
    met = {0: True}
    found = []
    while len(met) < size:
        for at, (one, other) in enumerate(ways):
            if (one in met) != (other in met):
                place, there = (one, other) if one in met else (other, one)
                met[there] = True
                found.append((at, place, there))
    return found
