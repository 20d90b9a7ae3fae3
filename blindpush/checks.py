"""What the other modules ask of values that may be any value."""

MAX_TURN = 10 ** 30 - 1


def is_number(value):
    """Return whether the value is an int that is not a bool."""
    return isinstance(value, int) and not isinstance(value, bool)


def is_number_within(value, least, most):
    """Return whether the value is a number from least to most."""
    return is_number(value) and least <= value <= most


def is_place(m, value):
    """Return whether the value is a place of the circle of m places."""
    return is_number_within(value, 0, m - 1)


def is_turn(value):
    """Return whether the value is a number of at most 30 digits."""
    return is_number_within(value, -MAX_TURN, MAX_TURN)


def is_index(items, value):
    """Return whether the value is the index of one of the items."""
    return is_number_within(value, 0, len(items) - 1)


def is_tuple_within(value, least, most):
    """Return whether the value is a tuple of least to most items."""
    return isinstance(value, tuple) and least <= len(value) <= most


def is_pair(value):
    """Return whether the value is a tuple of two items."""
    return is_tuple_within(value, 2, 2)
