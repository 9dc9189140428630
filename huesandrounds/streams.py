"""Rims of the least price between two faces, and the greatest streams; tears of the greatest price."""

from huesandrounds.basics import is_int
from huesandrounds.bodies import check_body
from huesandrounds.checking import check_face, check_size
from huesandrounds.errors import InvalidFace
from huesandrounds.evenlots import MOST_FOR_LOTS, even_list
from huesandrounds.prices import check_prices, price_sum
from huesandrounds.structure import edge_list, edge_places, pair


def _check_all(body, prices, face, last):
    """The checks of a body, prices, and two unlike faces."""
    check_body(body)
    check_prices(body, prices)
    check_face(body, face)
    check_face(body, last)
    if face == last:
        raise InvalidFace("the same face twice")


def least_rim(body, prices, face, last):
    """The pair of the least price of a rim between two faces, and of the first lot of faces with it."""
    _check_all(body, prices, face, last)
    places = edge_places(body)
    found = [(0, ())]
    for item in range(len(body)):
        near = [(other, prices[places[(other, item)]]) for other in body[item] if other < item]
        longer = []
        for price, lot in found:
            if item != last:
                more = sum([worth for other, worth in near if other not in lot])
                longer.append((price + more, lot + (item,)))
            if item != face:
                more = sum([worth for other, worth in near if other in lot])
                longer.append((price + more, lot))
        found = longer
    return min(found)


def stream(body, prices, face, last):
    """Any greatest stream from a face to another one."""
    _check_all(body, prices, face, last)
    places = edge_places(body)
    flow = (0,) * len(prices)
    steps = _open_way(body, prices, flow, face, last)
    while steps:
        told = [(places[pair(one, other)], 1 if one < other else -1) for one, other in steps]
        room = min([prices[at] - way * flow[at] for at, way in told])
        ways = {at: way for at, way in told}
        flow = tuple([item + room * ways.get(at, 0) for at, item in enumerate(flow)])
        steps = _open_way(body, prices, flow, face, last)
    return flow


def _open_way(body, prices, flow, face, last):
    """As few steps (one, other) as lead from a face to another one over edges that have room left; none if none do."""
    room = {}
    for (one, other), price, item in zip(edge_list(body), prices, flow):
        room[(one, other)] = price - item
        room[(other, one)] = price + item
    ways = {face: ()}
    queue = [face]
    at = 0
    while at < len(queue) and last not in ways:
        here = queue[at]
        for there in body[here]:
            if there not in ways and room[(here, there)] > 0:
                ways[there] = ways[here] + ((here, there),)
                queue.append(there)
        at = at + 1
    return ways.get(last, ())


def is_stream(body, prices, face, last, value):
    """Whether any value is a stream from a face to another one."""
    _check_all(body, prices, face, last)
    if not isinstance(value, tuple) or len(value) != len(prices) or not all([is_int(item) for item in value]):
        return False
    if any([abs(item) > price for item, price in zip(value, prices)]):
        return False
    out = [0 for _ in body]
    for (one, other), item in zip(edge_list(body), value):
        out[one] = out[one] + item
        out[other] = out[other] - item
    return out[face] >= 0 and all([many == 0 for at, many in enumerate(out) if at not in (face, last)])


def greatest_tear(body, prices):
    """The pair of the greatest price of a tear, and of any tear that has it."""
    check_body(body)
    check_prices(body, prices)
    # Tears are the lots of which each face has an even number of edges: for each lot of faces that are odd so far
    # the dearest lot of edges is kept. Behind the edges of a face with all lesser ones this one must be even.
    best = {0: (0, ())}
    for face in range(len(body)):
        for other in sorted(body[face]):
            if other > face:
                best = _with_edge(best, (face, other), prices[edge_places(body)[(face, other)]])
        best = {odd: best[odd] for odd in best if (odd >> face) & 1 == 0}
    return best[0]


def _with_edge(best, edge, price):
    """The dearest lots for each lot of odd faces, with and without one more edge."""
    own = (1 << edge[0]) ^ (1 << edge[1])
    found = {}
    for odd in best:
        worth, some = best[odd]
        for there, lot in ((odd, (worth, some)), (odd ^ own, (worth + price, some + (edge,)))):
            if there not in found or lot > found[there]:
                found[there] = lot
    return found


def same_price(body, prices):
    """The first pair of two even lots with the same price, the one ahead of the other one, or None."""
    check_body(body)
    check_prices(body, prices)
    check_size(body, MOST_FOR_LOTS)
    by_price = {}
    for lot in even_list(body):
        price = price_sum(body, lot, prices)
        by_price[price] = by_price.get(price, ()) + (lot,)
    found = [by_price[price][:2] for price in by_price if len(by_price[price]) >= 2]
    return min(found, default=None)
