"""Determinants, equations and invariants of rows of integers, without fractions."""


def determinant(rows):
    """The determinant of as many rows as each of them has items."""
    ahead = 1
    sign = 1
    for at in range(len(rows)):
        fit = [place for place in range(at, len(rows)) if rows[place][at] != 0]
        if not fit:
            return 0
        if fit[0] != at:
            sign = -sign
            rows = _exchanged(rows, at, fit[0])
        lead = rows[at][at]
        rows = _struck_out(rows, at, ahead)
        ahead = lead
    return sign * ahead


def _exchanged(rows, one, other):
    """Rows of which two have exchanged their places."""
    order = list(range(len(rows)))
    order[one] = other
    order[other] = one
    return [rows[at] for at in order]


def _struck_out(rows, at, ahead):
    """Rows in which the one at a place has struck out what the others have there, given the lead of the last one.

    All items are determinants of some of the first rows, so the last lead divides without rest.
    """
    first = rows[at]
    lead = first[at]
    found = []
    for place, row in enumerate(rows):
        own = row[at]
        if place == at:
            found.append(first)
        else:
            found.append([(lead * item - own * above) // ahead for item, above in zip(row, first)])
    return found


def solve(rows, column):
    """The determinant of rows, and this times each of the numbers that solve them for a column.

    The rows are those of a web without one of its places, so there is always something left to lead.
    """
    rows = [list(row) + [item] for row, item in zip(rows, column)]
    ahead = 1
    for at in range(len(rows)):
        lead = rows[at][at]
        rows = _struck_out(rows, at, ahead)
        ahead = lead
    return (ahead, [row[-1] for row in rows])


def adjugate(rows):
    """The determinant of rows, and this times the rows that undo them.

    As in `solve`, there is always something left to lead.
    """
    ahead = 1
    for at in range(len(rows)):
        first = rows[at]
        lead = first[at]
        found = []
        for place, row in enumerate(rows):
            own = row[at]
            # What undoes the rows stands where these are cleared: there is the last lead in the row that leads now.
            if place == at:
                found.append(first[:at] + [ahead] + first[at + 1:])
            else:
                struck = [(lead * item - own * above) // ahead for item, above in zip(row, first)]
                found.append(struck[:at] + [-own] + struck[at + 1:])
        rows = found
        ahead = lead
    return (ahead, rows)


def invariants_of(rows):
    """The list of the invariants of rows whose determinant is not 0, each dividing the next one, ones among them."""
    found = []
    while rows:
        rows = _cleared(rows)
        found.append(abs(rows[0][0]))
        rows = [row[1:] for row in rows[1:]]
    return found


def _cleared(rows):
    """Rows with the same invariants, the first row and column cleared but for their common item, which divides all."""
    while True:
        rows = _least_first(rows)
        lead = rows[0][0]
        rows = rows[:1] + [_less(row, rows[0], row[0] // lead) for row in rows[1:]]
        shares = [item // lead for item in rows[0]]
        rows = [row[:1] + _less(row, [share * row[0] for share in shares], 1)[1:] for row in rows]
        if any(rows[0][1:]) or any([row[0] for row in rows[1:]]):
            continue
        odd = [row for row in rows if any([item % lead for item in row])]
        if not odd:
            return rows
        rows = [_less(rows[0], odd[0], -1)] + rows[1:]


def _less(row, other, many):
    """A row less another one so many times."""
    return [item - many * taken for item, taken in zip(row, other)]


def _least_first(rows):
    """Rows and columns exchanged so that the least item in size, but for 0, stands first."""
    places = [(abs(row[at]), place, at) for place, row in enumerate(rows) for at in range(len(row)) if row[at] != 0]
    _, place, at = min(places)
    rows = _exchanged(rows, 0, place) if place != 0 else rows
    return [[row[at]] + row[:at] + row[at + 1:] for row in rows]
