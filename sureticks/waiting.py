"""Pieces of work that wait for one another: which way is the longest, and what gains."""

from sureticks.errors import InvalidLengths, InvalidNumber, InvalidWaits
from sureticks.kinds import are_upward_pairs, is_integer_in, is_number, plain, replaced

MOST_PIECES = 8
MOST_LENGTH = 999999


class Work:
    """The lengths of pieces, and the pairs (i, j) of them in which j waits for i."""

    def __init__(self, lengths, waits):
        if not _are_lengths(lengths):
            raise InvalidLengths(lengths)
        if not are_upward_pairs(len(lengths), waits):
            raise InvalidWaits(waits)
        # Built anew, so that what is kept is plain even where a class of its own was passed.
        self.lengths = plain(lengths)
        self.waits = plain(waits)

    def __eq__(self, other):
        if not isinstance(other, Work):
            return False
        return self.lengths == other.lengths and self.waits == other.waits


def ending(work):
    """Return the greatest length of a way."""
    return max([_length(work, way) for way in _all_ways(work)])


def longest(work):
    """Return the first way of the greatest length."""
    end = ending(work)
    return min([way for way in _all_ways(work) if _length(work, way) == end])


def heights(work):
    """Return the least heights: of each piece, how long the longest way is that ends with it."""
    found = []
    for piece in range(len(work.lengths)):
        # What a piece waits for is less, so its height has been found ahead of it.
        ahead = [found[i] for i, j in work.waits if j == piece]
        found.append(work.lengths[piece] + max(ahead, default=0))
    return tuple(found)


def heights_hold(work, many, value):
    """Tell whether many is a number and value heights up to many; both may be any value."""
    if not is_number(many) or not isinstance(value, tuple) or len(value) != len(work.lengths):
        return False
    return (
        all([is_integer_in(height, 0, many) for height in value])
        and all([height >= length for height, length in zip(value, work.lengths)])
        and all([value[j] >= value[i] + work.lengths[j] for i, j in work.waits])
    )


def shortened(work, piece, many):
    """Return the work in which this piece is by many shorter."""
    if not _is_piece(work, piece):
        raise InvalidNumber(piece)
    length = work.lengths[piece]
    if not is_integer_in(many, 0, length):
        raise InvalidNumber(many)
    return Work(replaced(work.lengths, piece, length - many), work.waits)


def gain(work, piece, many):
    """Return by how much the ending is less where this piece is by many shorter."""
    return ending(work) - ending(shortened(work, piece, many))


def slack(work, piece):
    """Return by how much the ending is more than the greatest length of a way with this piece."""
    if not _is_piece(work, piece):
        raise InvalidNumber(piece)
    return ending(work) - max([_length(work, way) for way in _all_ways(work) if piece in way])


def _are_lengths(value):
    """Tell whether value is a tuple of the lengths of pieces."""
    return (
        isinstance(value, tuple)
        and 1 <= len(value) <= MOST_PIECES
        and all([is_integer_in(length, 0, MOST_LENGTH) for length in value])
    )


def _is_piece(work, value):
    """Tell whether value is a piece of the work."""
    return is_integer_in(value, 0, len(work.lengths) - 1)


def _all_ways(work):
    """Return all ways; as a piece waits only for lesser ones, there are at most 255."""
    found = []
    latest = [(piece,) for piece in range(len(work.lengths))]
    while len(latest) > 0:
        found = found + latest
        latest = [way + (j,) for way in latest for i, j in work.waits if i == way[-1]]
    return found


def _length(work, way):
    """Return the length of a way."""
    return sum([work.lengths[piece] for piece in way])
