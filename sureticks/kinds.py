"""Of what kind a value is."""

MOST_TICKS = 999999


def is_integer(value):
    """Tell whether value is an integer; True and False are none."""
    return isinstance(value, int) and not isinstance(value, bool)


def is_integer_in(value, low, high):
    """Tell whether value is an integer from low to high."""
    return is_integer(value) and low <= value <= high


def is_number(value):
    """Tell whether value is an integer from 0 on."""
    return is_integer(value) and value >= 0


def is_pair(value):
    """Tell whether value is a tuple of two members."""
    return isinstance(value, tuple) and len(value) == 2


def is_upward_pair(many, value):
    """Tell whether value is a pair of numbers below many of which the first is less."""
    return (
        is_pair(value)
        and is_integer_in(value[0], 0, many - 1)
        and is_integer_in(value[1], 0, many - 1)
        and value[0] < value[1]
    )


def are_upward_pairs(many, value):
    """Tell whether value is an ascending tuple of such pairs."""
    return (
        isinstance(value, tuple)
        and all([is_upward_pair(many, pair) for pair in value])
        and is_ascending(value)
    )


def is_ascending(members):
    """Tell whether each of these members, all of one kind, is more than the one ahead of it."""
    return all([one < other for one, other in zip(members, members[1:])])


def is_same(plain_one, value):
    """Tell whether value, which may be any, is just this tuple, integer or word.

    Python takes True for 1, the document does not.
    """
    if isinstance(plain_one, tuple):
        if not isinstance(value, tuple) or len(value) != len(plain_one):
            return False
        return all([is_same(one, other) for one, other in zip(plain_one, value)])
    return not isinstance(value, bool) and plain_one == value


def plain(value):
    """Return value, of tuples and integers, built anew with no class of its own within."""
    if isinstance(value, tuple):
        return tuple([plain(member) for member in value])
    return int(value)


def replaced(members, place, member):
    """Return a tuple of these members with another one at this place."""
    return members[:place] + (member,) + members[place + 1:]
