"""Chips on the corners or the faces: loads and their low ones, piles and lasting ones."""

from math import gcd

from huesandrounds.basics import is_row
from huesandrounds.bodies import check_body
from huesandrounds.checking import check_number
from huesandrounds.errors import InvalidLoad, InvalidPile
from huesandrounds.solving import invariants_of, solve
from huesandrounds.webs import balance, check_web, plain_weights, web_near, web_size, web_ties

MOST_LOAD = 10 ** 9
MOST_PILE = 60


def is_load(body, on, value):
    """Whether any value is a load."""
    check_body(body)
    check_web(on)
    return _is_load_row(body, on, value)


def _is_load_row(body, on, value):
    """Whether any value is a load on a web of what is taken to be a body."""
    return is_row(value, web_size(body, on), -MOST_LOAD, MOST_LOAD)


def check_load(body, on, value):
    """Raises InvalidLoad for any value that is no load on a web."""
    if not _is_load_row(body, on, value):
        raise InvalidLoad("no load on the web")


def check_even_load(body, on, value):
    """Raises InvalidLoad for any value that is no load with the sum 0 on a web."""
    check_load(body, on, value)
    if sum(value) != 0:
        raise InvalidLoad("no load with the sum 0")


def sent(body, on, load, place):
    """What there is behind a place of a load sends."""
    check_body(body)
    check_web(on)
    check_load(body, on, load)
    check_number(place, 0, web_size(body, on) - 1)
    near = web_near(body, on)[place]
    held = [many + 1 if at in near else many for at, many in enumerate(load)]
    held[place] = held[place] - len(near)
    return tuple(held)


def invariants(body, on):
    """The tuple of the invariants of all loads with the sum 0."""
    check_body(body)
    check_web(on)
    return tuple([item for item in invariants_of(_rows(body, on)) if item > 1])


def _rows(body, on):
    """The rows that tell what all places but the place 0 give and get if they send."""
    return balance(web_ties(body, on), plain_weights(body), web_size(body, on), 0)


def alike_loads(body, on, one, other):
    """Whether two loads are alike."""
    check_body(body)
    check_web(on)
    check_load(body, on, one)
    check_load(body, on, other)
    if sum(one) != sum(other):
        return False
    total, sends = solve(_rows(body, on), [item - taken for item, taken in zip(one[1:], other[1:])])
    return all([many % total == 0 for many in sends])


def low(body, on, load):
    """The low load that is alike to a load."""
    check_body(body)
    check_web(on)
    check_load(body, on, load)
    return low_load(body, on, load)


def low_load(body, on, load):
    """What `low` tells of a load that may be beyond the bounds."""
    most = _most(body, on)
    # What is left of a low load to as many chips as can be settled is lasting, and the other way round.
    lacking = _lasting_pile(body, on, (0,) + tuple([full - many for full, many in zip(most, load[1:])]))
    chips = tuple([full - many for full, many in zip(most, lacking)])
    return (sum(load) - sum(chips),) + chips


def order_of(body, on, load):
    """The least number, from 1 on, such that so many times a load with the sum 0 is alike to nothing."""
    check_body(body)
    check_web(on)
    check_even_load(body, on, load)
    total, sends = solve(_rows(body, on), load[1:])
    common = total
    for many in sends:
        common = gcd(common, many)
    return total // common


def check_pile(body, on, value):
    """Raises InvalidPile for any value that is no pile on a web."""
    if not is_row(value, web_size(body, on) - 1, 0, MOST_PILE):
        raise InvalidPile("no pile on the web")


def settled(body, on, pile):
    """A pile settled."""
    check_body(body)
    check_web(on)
    check_pile(body, on, pile)
    return _settle(body, on, pile)


def _settle(body, on, pile):
    """What `settled` tells of a pile that may be beyond the bounds."""
    near = web_near(body, on)
    held = list((0,) + pile)
    full = [at for at in range(1, len(held)) if held[at] >= len(near[at])]
    while full:
        for at in full:
            many = held[at] // len(near[at])
            held[at] = held[at] - many * len(near[at])
            for there in near[at]:
                held[there] = held[there] + many
        full = [at for at in range(1, len(held)) if held[at] >= len(near[at])]
    return tuple(held[1:])


def is_lasting(body, on, pile):
    """Whether a pile is lasting."""
    check_body(body)
    check_web(on)
    check_pile(body, on, pile)
    first = web_near(body, on)[0]
    more = tuple([many + 1 if at in first else many for at, many in enumerate((0,) + pile)])[1:]
    return _settle(body, on, more) == pile


def lasting(body, on, load):
    """The lasting pile that has what some load alike to a load has at all places but the place 0."""
    check_body(body)
    check_web(on)
    check_load(body, on, load)
    return _lasting_pile(body, on, load)


def neutral(body, on):
    """The lasting pile that leaves each lasting pile as it is, if it is added and the sum is settled."""
    check_body(body)
    check_web(on)
    return _lasting_pile(body, on, (0,) * web_size(body, on))


def _lasting_pile(body, on, load):
    """What `lasting` tells of a load that may be beyond the bounds."""
    rows = _rows(body, on)
    total, sends = solve(rows, load[1:])
    whole = [many // total for many in sends]
    # Sends for all whole parts leave less than as many chips as edges at each place, above and below 0.
    near = [many - sum([item * sent for item, sent in zip(row, whole)]) for row, many in zip(rows, load[1:])]
    most = _most(body, on)
    # Twice as many chips as can be settled, less what they come to settled, are alike to nothing, and at least as
    # many as can be settled; from so many at all places on, what they come to settled is lasting.
    twice = tuple([2 * many for many in most])
    nothing = [many - left for many, left in zip(twice, _settle(body, on, twice))]
    return _settle(body, on, tuple([many + 2 * more for many, more in zip(near, nothing)]))


def _most(body, on):
    """As many chips as each place but the place 0 can have in a settled pile."""
    return tuple([len(row) - 1 for row in web_near(body, on)[1:]])
