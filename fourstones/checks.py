"""What any value is: an integer, an integer within bounds, a cell, a side."""

FARTHEST = 1000000


def is_integer(value):
    """True and False are integers to Python, but none here."""
    return isinstance(value, int) and not isinstance(value, bool)


def is_within(value, least, most):
    """Whether the value is an integer from least to most; None is no bound."""
    if not is_integer(value):
        return False
    if least is not None and value < least:
        return False
    return most is None or value <= most


def is_cell(value):
    """Whether the value is a pair of integers that are not too far from 0."""
    if not isinstance(value, (list, tuple)) or len(value) != 2:
        return False
    x, y = value
    return is_within(x, -FARTHEST, FARTHEST) and is_within(y, -FARTHEST, FARTHEST)


def is_side(value):
    """Whether the value is a side: 0 north, 1 east, 2 south, 3 west."""
    return is_within(value, 0, 3)
