"""Runs, their traces, and the sums of ticks that the events of a trace tell."""

from sureticks.calls import is_function
from sureticks.errors import InvalidRun, InvalidTrace
from sureticks.kinds import MOST_TICKS, is_integer, is_integer_in, is_pair

MOST_RUNS = 200
MOST_PARTS = 400
# A trace has an event for each of the 400 parts (a run's is its beginning), one for
# the end of each of the 200 runs, and one for the beginning of the first, no part.
MOST_EVENTS = 601


def is_run(calls, value):
    """Tell whether value, which may be any, is a run of calls."""
    return events_of(calls, value) is not None


def own(calls, run):
    """Return for each function the ticks that stand in the parts of its runs."""
    return own_ticks(calls, trace_of(calls, run))


def whole(calls, run):
    """Return for each function the ticks that stand in its runs or within them."""
    return whole_ticks(calls, trace_of(calls, run))


def passed(calls, run):
    """Return for each edge (g, f) the ticks of the runs of f that are parts of runs of g."""
    along = {edge: 0 for edge in calls.edges}
    for path, ticks in _ticks_with_paths(trace_of(calls, run)):
        for edge in zip(path, path[1:]):
            along[edge] += ticks
    return tuple([along[edge] for edge in calls.edges])


def trace_of(calls, run):
    """Return the trace of a run."""
    events = events_of(calls, run)
    if events is None:
        raise InvalidRun(run)
    return events


def run_of(calls, trace):
    """Return the one run that has this trace."""
    if not _are_events(calls, trace):
        raise InvalidTrace(trace)
    run = _joined(calls, trace)
    if run is None:
        raise InvalidTrace(trace)
    return run


def events_of(calls, value):
    """Return the trace of value, which may be any, or None if it is no run of calls."""
    if not _looks_like_run(value) or value[0] != 0:
        return None
    events = []
    if not _add_events(calls, value, events) or not _are_few(events):
        return None
    return tuple(events)


def own_ticks(calls, events):
    """Return what own tells of the run with these events."""
    sums = [0] * calls.functions
    for path, ticks in _ticks_with_paths(events):
        sums[path[-1]] += ticks
    return tuple(sums)


def whole_ticks(calls, events):
    """Return what whole tells of the run with these events."""
    sums = [0] * calls.functions
    for path, ticks in _ticks_with_paths(events):
        for function in path:
            sums[function] += ticks
    return tuple(sums)


def _ticks_with_paths(events):
    """Return, with all ticks, the functions of the runs in which they stand, outermost first."""
    path = []
    found = []
    for event in events:
        if is_integer(event):
            found.append((tuple(path), event))
        elif event[0] == "in":
            path.append(event[1])
        else:
            path.pop()
    return found


def _looks_like_run(value):
    """Tell whether value is a pair of an integer and a tuple."""
    return is_pair(value) and is_integer(value[0]) and isinstance(value[1], tuple)


def _is_ticks(value):
    """Tell whether value is a part that a function spends itself."""
    return is_integer_in(value, 1, MOST_TICKS)


def _add_events(calls, run, events):
    """Add the events of run to events; tell whether each part within it may stand there.

    A call goes to a greater function, so this goes no deeper than there are functions.
    """
    function = int(run[0])
    events.append(("in", function))
    for part in run[1]:
        # A value that has far too many parts is not walked to its end.
        if len(events) > MOST_EVENTS:
            return False
        if _is_ticks(part):
            events.append(int(part))
        elif not _looks_like_run(part) or (function, part[0]) not in calls.edges:
            return False
        elif not _add_events(calls, part, events):
            return False
    events.append(("out", function))
    return True


def _are_few(events):
    """Tell whether runs, parts and ticks are no more than a run may have."""
    ticks = [event for event in events if is_integer(event)]
    runs = len([event for event in events if not is_integer(event) and event[0] == "in"])
    parts = len(ticks) + runs - 1
    return runs <= MOST_RUNS and parts <= MOST_PARTS and sum(ticks) <= MOST_TICKS


def _is_event(calls, value):
    """Tell whether value may be an event of a trace."""
    if _is_ticks(value):
        return True
    return is_pair(value) and value[0] in ("in", "out") and is_function(calls.functions, value[1])


def _are_events(calls, value):
    """Tell whether value is a tuple of events that are not too many for a trace."""
    return (
        isinstance(value, tuple)
        and all([_is_event(calls, event) for event in value])
        and _are_few(value)
    )


def _joined(calls, events):
    """Return the run with these events, or None if they do not stand as in a trace."""
    if events[:1] != (("in", 0),) or events[-1:] != (("out", 0),):
        return None
    functions = [0]
    parts = [[]]
    for event in events[1:-1]:
        if is_integer(event):
            parts[-1].append(int(event))
        elif event[0] == "in":
            if (functions[-1], event[1]) not in calls.edges:
                return None
            functions.append(int(event[1]))
            parts.append([])
        else:
            # The first run ends with the last event only.
            if len(functions) == 1 or functions[-1] != event[1]:
                return None
            ended = (functions.pop(), tuple(parts.pop()))
            parts[-1].append(ended)
    return (0, tuple(parts[0])) if len(functions) == 1 else None
