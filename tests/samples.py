"""What the tests share: calls, runs, odd values, and sums that are told from trees."""

import enum
import random
from collections import namedtuple

from sureticks import errors
from sureticks.calls import Calls
from sureticks.profiles import Profile

ONE = Calls(1, ())
LONE = Calls(3, ())
CHAIN = Calls(3, ((0, 1), (1, 2)))
FORK = Calls(3, ((0, 1), (0, 2), (1, 2)))
DIAMOND = Calls(4, ((0, 1), (0, 2), (1, 3), (2, 3)))
FULL = Calls(5, tuple((g, f) for g in range(5) for f in range(g + 1, 5)))
ALL_CALLS = (ONE, LONE, CHAIN, FORK, DIAMOND, FULL)

Couple = namedtuple("Couple", "left right")
Step = enum.IntEnum("Step", {"NONE": 0, "ONE": 1, "TWO": 2})


def nested(depth, middle=()):
    """A tuple in a tuple in a tuple, so deep."""
    value = middle
    for _ in range(depth):
        value = (value,)
    return value


def chained(depth, function=0):
    """Pairs that look like runs of one function within one another, so deep."""
    value = (function, ())
    for _ in range(depth):
        value = (function, (value,))
    return value


def odd_values():
    """Values of all kinds that are no run, no trace, no edges, no ticks and no number from 1."""
    return [
        None, True, False, 0, -1, -(10 ** 11), 10 ** 11, "", "in", "out", "0", "(0, ())", "x" * 4000,
        [], [0, ()], [("in", 0), ("out", 0)], [0], [[]], (None,), (True,), (False,), ((),), ([],),
        (0, []), (0, None), (0, 1), (0, "x"), (0, (), ()), ((), 0), (False, ()), (None, ()),
        ("in", 0), ("out", 0), (("in", 0),), (("out", 0),), (["in", 0], ["out", 0]),
        nested(30), nested(57), nested(58, [1]), chained(28), [[[()]]], (1,) * 29999, ((),) * 29998,
        CHAIN, (CHAIN,), (0, (CHAIN,)), (0, (Profile(ONE, (0,), (0,)),)), Profile(ONE, (0,), (0,)),
        (0, CHAIN), (CHAIN, ()), errors.InvalidRun((0, ())), errors.TickError("x"),
    ]


def own_of_tree(calls, run):
    """own, told from the tree."""
    sums = [0] * calls.functions
    for g, part, _ in parts_within(run):
        if isinstance(part, int):
            sums[g] += part
    return tuple(sums)


def ticks_of_tree(run):
    """All ticks in or within a run."""
    return sum(part if isinstance(part, int) else ticks_of_tree(part) for part in run[1])


def whole_of_tree(calls, run):
    """whole, told from the tree."""
    sums = [0] * calls.functions
    sums[0] = ticks_of_tree(run)
    for _, part, _ in parts_within(run):
        if not isinstance(part, int):
            sums[part[0]] += ticks_of_tree(part)
    return tuple(sums)


def passed_of_tree(calls, run):
    """passed, told from the tree."""
    sums = {edge: 0 for edge in calls.edges}
    for g, part, _ in parts_within(run):
        if not isinstance(part, int):
            sums[g, part[0]] += ticks_of_tree(part)
    return tuple(sums[edge] for edge in calls.edges)


def parts_within(run):
    """Each part in or within a run, with the function that it is a part of, and its place."""
    found = []
    for place, part in enumerate(run[1]):
        found.append((run[0], part, place))
        if not isinstance(part, int):
            found.extend(parts_within(part))
    return found


def trace_of_tree(run):
    """The trace, told from the tree."""
    events = [("in", run[0])]
    for part in run[1]:
        events.extend([part] if isinstance(part, int) else trace_of_tree(part))
    return tuple(events) + (("out", run[0]),)


def small_runs(calls, function, events, ticks=(1,)):
    """All runs of a function with at most so many events, and only these ticks."""
    if events < 2:
        return []
    return [(function, parts) for parts in small_parts(calls, function, events - 2, ticks)]


def small_parts(calls, function, events, ticks):
    """All tuples of parts of a function with at most so many events."""
    found = [()]
    firsts = list(ticks) if events else []
    for g, f in calls.edges:
        if g == function:
            firsts.extend(small_runs(calls, f, events, ticks))
    for first in firsts:
        spent = 1 if isinstance(first, int) else len(trace_of_tree(first))
        found.extend((first,) + rest for rest in small_parts(calls, function, events - spent, ticks))
    return found


def chance_run(calls, seed):
    """A run that chance has made, the same for each seed."""
    chance = random.Random(seed)
    left = [chance.randrange(60)]

    def grow(function):
        callees = [f for g, f in calls.edges if g == function]
        parts = []
        while left[0] > 0 and chance.randrange(6):
            left[0] -= 1
            if callees and chance.randrange(2):
                parts.append(grow(chance.choice(callees)))
            else:
                parts.append(chance.choice((1, 2, 3, 17, 500, 16000)))
        return (function, tuple(parts))

    return grow(0)


def chance_runs(many=25):
    """Pairs of calls and a run of them."""
    return [(calls, chance_run(calls, seed)) for calls in ALL_CALLS for seed in range(many)]


def is_plain(value):
    """Whether value is an int, a string or a tuple, of no class of its own, also within."""
    if type(value) is tuple:
        return all(is_plain(member) for member in value)
    return type(value) in (int, str)
