"""Functions, and which of them may call which."""

from sureticks.errors import InvalidEdges, InvalidNumber
from sureticks.kinds import are_upward_pairs, is_integer_in, is_upward_pair

MOST_FUNCTIONS = 5


class Calls:
    """A number of functions, and the pairs (g, f) of them in which g may call f."""

    def __init__(self, functions, edges):
        if not is_integer_in(functions, 1, MOST_FUNCTIONS):
            raise InvalidNumber(functions)
        if not are_upward_pairs(functions, edges):
            raise InvalidEdges(edges)
        # Built anew, so that what is kept is plain even where a class of its own was passed.
        self.functions = int(functions)
        self.edges = tuple([(int(g), int(f)) for g, f in edges])

    def __eq__(self, other):
        if not isinstance(other, Calls):
            return False
        return self.functions == other.functions and self.edges == other.edges


def is_function(functions, value):
    """Tell whether value, which may be any, is one of so many functions."""
    return is_integer_in(value, 0, functions - 1)


def is_edge(calls, value):
    """Tell whether value, which may be any, is an edge of calls."""
    return is_upward_pair(calls.functions, value) and value in calls.edges
