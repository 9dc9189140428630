"""The polynomial of a body, its values, and ringless courses."""

from huesandrounds.basics import is_row, is_sign_row
from huesandrounds.bodies import check_body
from huesandrounds.checking import check_face, check_number, check_size
from huesandrounds.errors import InvalidNumber
from huesandrounds.facehues import lot_counts
from huesandrounds.structure import edge_list

MOST_FACES_HERE = 10
MOST_NUMBER = 10 ** 12
MOST_GOLDEN = 1000


def polynomial(body):
    """The polynomial, its number for the power 0 first."""
    check_body(body)
    check_size(body, MOST_FACES_HERE)
    return polynomial_of(body)


def polynomial_of(body):
    """The polynomial of what is taken to be a body."""
    total = [0 for _ in range(len(body) + 1)]
    # So many lots can have hues in many * (many - 1) * (many - 2) .. ways.
    ways = [1]
    for size, count in enumerate(lot_counts(body)):
        for power, number in enumerate(ways):
            total[power] = total[power] + count * number
        ways = _times_less(ways, size)
    return tuple(total)


def _times_less(numbers, size):
    """The numbers of a polynomial times many less a size."""
    raised = [0] + numbers
    scaled = numbers + [0]
    return [one - size * other for one, other in zip(raised, scaled)]


def value_at(body, number):
    """The value of the polynomial at a number."""
    check_body(body)
    check_number(number, -MOST_NUMBER, MOST_NUMBER)
    check_size(body, MOST_FACES_HERE)
    return worth_at(polynomial_of(body), number)


def worth_at(numbers, number):
    """The value of a polynomial, given by its numbers, at a number."""
    worth = 0
    for item in numbers[::-1]:
        worth = worth * number + item
    return worth


def golden_at(body, pair):
    """The value of the polynomial at a golden number."""
    check_body(body)
    if not is_row(pair, 2, -MOST_GOLDEN, MOST_GOLDEN):
        raise InvalidNumber("no golden number in its range")
    check_size(body, MOST_FACES_HERE)
    worth = (0, 0)
    for item in polynomial_of(body)[::-1]:
        plain, golden = _golden_product(worth, pair)
        worth = (plain + item, golden)
    return worth


def _golden_product(one, other):
    """The product of two golden numbers."""
    a, b = one
    c, d = other
    return (a * c + b * d, a * d + b * c + b * d)


def count_ringless(body):
    """How many ringless courses there are."""
    check_body(body)
    check_size(body, MOST_FACES_HERE)
    # Known in print, by Stanley: it is the value at -1, without its sign.
    return abs(worth_at(polynomial_of(body), -1))


def count_from(body, face):
    """How many ringless courses have no edge that leads to this face, but one that leads to each other face."""
    check_body(body)
    check_face(body, face)
    check_size(body, MOST_FACES_HERE)
    # Known in print, by Greene and Zaslavsky: it is the same number for each face.
    return abs(polynomial_of(body)[1])


def is_ringless(body, value):
    """Whether any value is a ringless course."""
    check_body(body)
    if not is_sign_row(value, 3 * len(body) - 6):
        return False
    leads = [edge if way == 1 else edge[::-1] for edge, way in zip(edge_list(body), value)]
    while leads:
        aims = [aim for _, aim in leads]
        rest = [lead for lead in leads if lead[0] in aims]
        if len(rest) == len(leads):
            return False
        leads = rest
    return True
