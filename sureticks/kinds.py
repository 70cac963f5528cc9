"""Of what kind a value is."""

MOST_TICKS = 999999


def is_integer(value):
    """Tell whether value is an integer; True and False are none."""
    return isinstance(value, int) and not isinstance(value, bool)


def is_integer_in(value, low, high):
    """Tell whether value is an integer from low to high."""
    return is_integer(value) and low <= value <= high


def is_pair(value):
    """Tell whether value is a tuple of two members."""
    return isinstance(value, tuple) and len(value) == 2


def is_ascending(members):
    """Tell whether each of these members, all of one kind, is more than the one ahead of it."""
    return all([one < other for one, other in zip(members, members[1:])])
