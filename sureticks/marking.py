"""Which edges must be marked, so that a profile and what passes along them tell all."""

from itertools import combinations

from sureticks.calls import is_edge
from sureticks.errors import InvalidMarks, Undefined
from sureticks.kinds import is_ascending, is_pair
from sureticks.profiles import profile_of
from sureticks.runs import is_run, passed


def enough(calls, marks):
    """Tell whether marks are enough."""
    return _ring_of(calls, marks) is None


def ring(calls, marks):
    """Return some ring of reached edges that are no marks."""
    found = _ring_of(calls, marks)
    if found is None:
        raise Undefined("ring")
    return found


def alike(calls, marks):
    """Return some pair of runs of one profile, alike in all marks and unlike in some edge.

    One run goes to the edges of a ring at even places, the other to those at odd ones:
    each function is as often a first one, and a second one, in both.
    """
    found = _ring_of(calls, marks)
    if found is None:
        raise Undefined("alike")
    return (_run_to(calls, found[::2]), _run_to(calls, found[1::2]))


def ring_holds(calls, marks, value):
    """Tell whether value is a ring as ring tells it; marks and value may be any."""
    if not are_marks(calls, marks) or not isinstance(value, tuple):
        return False
    if len(value) > len(calls.edges) or not all([is_edge(calls, edge) for edge in value]):
        return False
    free = free_edges(calls, marks)
    return all([edge in free for edge in value]) and _is_ring(value)


def alike_holds(calls, marks, value):
    """Tell whether value is a pair as alike tells it; marks and value may be any."""
    if not are_marks(calls, marks) or not is_pair(value):
        return False
    one, other = value
    if not is_run(calls, one) or not is_run(calls, other):
        return False
    unlike_edges = _unlike_edges(calls, one, other)
    return (
        profile_of(calls, one) == profile_of(calls, other)
        and len(unlike_edges) > 0
        and all([edge not in marks for edge in unlike_edges])
    )


def least_marks(calls):
    """Return all marks that are enough, of which none are with one mark fewer."""
    edges = free_edges(calls, ())
    found = []
    for many in range(len(edges) + 1):
        # All that are looked for have the same number of marks, the first that is enough.
        if len(found) == 0:
            found = [marks for marks in combinations(edges, many) if enough(calls, marks)]
    return tuple(found)


def are_marks(calls, value):
    """Tell whether value, which may be any, is an ascending tuple of edges of calls."""
    return (
        isinstance(value, tuple)
        and all([is_edge(calls, edge) for edge in value])
        and is_ascending(value)
    )


def free_edges(calls, marks):
    """Return the reached edges that are no marks, ascending."""
    reached = _reached_functions(calls)
    return [edge for edge in calls.edges if edge[0] in reached and edge not in marks]


def _reached_functions(calls):
    """Return the functions that are reached, ascending."""
    reached = [0]
    # What calls a function is less, so it has been looked at ahead of it.
    for function in range(1, calls.functions):
        if any([(g, function) in calls.edges for g in list(reached)]):
            reached.append(function)
    return reached


def _ring_of(calls, marks):
    """Return some ring of reached edges that are no marks, or None if there is none."""
    if not are_marks(calls, marks):
        raise InvalidMarks(marks)
    edges = free_edges(calls, marks)
    for edge in edges:
        found = _ring_from(edges, (edge,))
        if found is not None:
            return found
    return None


def _ring_from(edges, way):
    """Return a ring of these edges that begins with those of way, or None if there is none."""
    if _is_ring(way):
        return way
    # The second edge has the first function of the one ahead of it, the third the second one.
    side = 1 - len(way) % 2
    for edge in edges:
        if edge[side] == way[-1][side] and edge not in way:
            found = _ring_from(edges, way + (edge,))
            if found is not None:
                return found
    return None


def _is_ring(way):
    """Tell whether these edges are a ring."""
    if len(way) < 4 or len(way) % 2 != 0:
        return False
    even, odd = way[::2], way[1::2]
    firsts = [edge[0] for edge in way]
    seconds = [edge[1] for edge in way]
    return (
        all([edge[0] == behind[0] for edge, behind in zip(even, odd)])
        and all([edge[1] == behind[1] for edge, behind in zip(odd, even[1:] + even[:1])])
        and all([way.count(edge) == 1 for edge in way])
        and all([firsts.count(function) <= 2 for function in firsts])
        and all([seconds.count(function) <= 2 for function in seconds])
    )


def _run_to(calls, edges):
    """Return a run that goes to each of these reached edges, each time with one tick."""
    return (0, tuple([_run_down(_path_to(calls, g) + [f]) for g, f in edges]))


def _path_to(calls, function):
    """Return the functions behind 0 on some way of calls to a reached function."""
    if function == 0:
        return []
    reached = _reached_functions(calls)
    callers = [g for g, f in calls.edges if f == function and g in reached]
    return _path_to(calls, callers[0]) + [function]


def _run_down(path):
    """Return a run of the first of these functions, each of which calls the next one."""
    part = 1
    for function in reversed(path):
        part = (function, (part,))
    return part


def _unlike_edges(calls, one, other):
    """Return the edges along which unlike numbers of ticks pass in these runs."""
    sums = list(zip(calls.edges, passed(calls, one), passed(calls, other)))
    return [edge for edge, ticks, others in sums if ticks != others]
