"""What any value is asked first, before it is compared with anything."""


def is_int(value):
    """Whether a value is an integer; True and False are none."""
    return isinstance(value, int) and not isinstance(value, bool)


def is_within(value, low, high):
    """Whether a value is an integer from low to high."""
    return is_int(value) and low <= value <= high


def is_row(value, length, low, high):
    """Whether a value is a tuple of so many integers from low to high."""
    if not isinstance(value, tuple) or len(value) != length:
        return False
    return all([is_within(item, low, high) for item in value])


def is_ascending(row):
    """Whether each item of a row of integers, or of edges, is above the one ahead of it."""
    return all([row[at] < row[at + 1] for at in range(len(row) - 1)])


def is_sign_row(value, length):
    """Whether a value is a tuple of so many integers, each 1 or -1."""
    return is_row(value, length, -1, 1) and 0 not in value
