"""What the tests tell by themselves: plain searches, and looks at bars, prices, rings and pairs."""

import itertools

from sureticks.calls import Calls
from sureticks.desk import Desk
from sureticks.profiles import Profile
from sureticks.runs import is_run
from sureticks.waiting import Work
from tests.samples import nested, odd_values, own_of_tree, passed_of_tree, whole_of_tree

PAIRS = tuple((g, f) for g in range(5) for f in range(g + 1, 5))


def calls_with(functions, number):
    """The calls with the edges whose places are the bits of the number."""
    pairs = [pair for pair in PAIRS if pair[1] < functions]
    return Calls(functions, tuple(pair for place, pair in enumerate(pairs) if number >> place & 1))


def all_calls(functions):
    """All calls of so many functions."""
    return [calls_with(functions, number) for number in range(2 ** (functions * (functions - 1) // 2))]


CALLS = Calls(2, ((0, 1),))
WORK = Work((1, 2), ((0, 1),))
DESK = Desk(Profile(CALLS, (1, 2), (3, 2)))


def any_values():
    """Values of all kinds, nested up to sixty deep."""
    objects = [WORK, DESK, (WORK,), (0, DESK), [DESK, WORK], nested(58, CALLS), nested(58, DESK)]
    return odd_values() + [(), nested(59), (nested(58), nested(58))] + objects


def anew(profile):
    """An equal profile that shares nothing with this one."""
    calls = Calls(profile.calls.functions, tuple(tuple(list(edge)) for edge in profile.calls.edges))
    return Profile(calls, tuple(list(profile.own)), tuple(list(profile.whole)))


def ways_down(calls):
    """All ways of calls from function 0, each a tuple of functions."""
    found = [(0,)]
    for way in found:
        found.extend(way + (f,) for g, f in calls.edges if g == way[-1])
    return found


def sums_of_ways(calls, ways):
    """own, whole and passed of a run that spends one tick at the end of each of these ways."""
    own, whole = [0] * calls.functions, [0] * calls.functions
    along = dict.fromkeys(calls.edges, 0)
    for way in ways:
        own[way[-1]] += 1
        for function in way:
            whole[function] += 1
        for edge in zip(way, way[1:]):
            along[edge] += 1
    return tuple(own), tuple(whole), tuple(along.values())


def all_profiles(calls, ticks):
    """For each profile with so many ticks or fewer that a run fits, all that can be passed.

    Each tick of a run stands at the end of one way of calls, and whichever ways the ticks
    take, there is a run with them: so this is a search through all runs.
    """
    found = {}
    for many in range(ticks + 1):
        for ways in itertools.combinations_with_replacement(ways_down(calls), many):
            own, whole, along = sums_of_ways(calls, ways)
            found.setdefault((own, whole), {})[along] = True
    return {key: sorted(passed) for key, passed in found.items()}


def supplies_of(profile):
    return [whole - own for own, whole in zip(profile.own, profile.whole)]


def is_number(value):
    return isinstance(value, int) and not isinstance(value, bool)


def are_numbers_in(value, low, high):
    return isinstance(value, tuple) and all(is_number(n) and low <= n <= high for n in value)


def is_bar(profile, value):
    """Whether value is a bar, by the words of point [9]."""
    functions = profile.calls.functions
    supplies = supplies_of(profile)
    bars = [("less", g) for g in range(functions) if supplies[g] < 0]
    if sum(supplies) != sum(profile.whole[1:]):
        bars.append(("sum",))
    for chosen in itertools.product((False, True), repeat=functions):
        some = tuple(g for g in range(functions) if chosen[g])
        callees = [f for f in range(functions) if any((g, f) in profile.calls.edges for g in some)]
        if sum(supplies[g] for g in some) > sum(profile.whole[f] for f in callees):
            bars.append(("much", some))
    # What is equal to a bar may have a bool in it.
    return value in bars and "True" not in repr(value) and "False" not in repr(value)


def all_bar_values(functions):
    """All values that may be bars for some profile of so many functions."""
    found = [("sum",)] + [("less", g) for g in range(functions)]
    for many in range(functions + 1):
        found.extend(("much", some) for some in itertools.combinations(range(functions), many))
    return found


def worth(profile, prices):
    """The worth of prices, by the words of point [11]."""
    told = 0
    for g in range(profile.calls.functions):
        told += supplies_of(profile)[g] * prices[0][g]
        if g != 0:
            told += profile.whole[g] * prices[1][g]
    return told


def are_prices(profile, value):
    """Whether value is prices, by the words of point [11]."""
    if not isinstance(value, tuple) or len(value) != 2:
        return False
    if any(not are_numbers_in(side, -9, 9) or len(side) != profile.calls.functions for side in value):
        return False
    return value[1][0] == 0


def show_at_most(profile, edge, many, value):
    """Whether value is prices that show at most many, by the words of point [11]."""
    if not are_prices(profile, value) or worth(profile, value) > many:
        return False
    sums = {(g, f): value[0][g] + value[1][f] for g, f in profile.calls.edges}
    return sums.pop(edge) >= 1 and all(other >= 0 for other in sums.values())


def show_at_least(profile, edge, many, value):
    """Whether value is prices that show at least many, by the words of point [11]."""
    if not are_prices(profile, value) or worth(profile, value) < many:
        return False
    sums = {(g, f): value[0][g] + value[1][f] for g, f in profile.calls.edges}
    return sums.pop(edge) <= 1 and all(other <= 0 for other in sums.values())


def reached_edges(calls):
    """The edges whose first function is on some way from function 0."""
    on_ways = {function for way in ways_down(calls) for function in way}
    return [edge for edge in calls.edges if edge[0] in on_ways]


def are_marks(calls, value):
    """Whether value is marks, by the words of point [13]; no bools are in it."""
    if not isinstance(value, tuple) or "True" in repr(value) or "False" in repr(value):
        return False
    return all(edge in calls.edges for edge in value) and list(value) == sorted(set(value))


def is_ring(calls, marks, value):
    """Whether value is a ring of reached edges that are no marks, by the words of point [13]."""
    if not isinstance(value, tuple) or len(value) % 2 or len(value) < 4:
        return False
    if not all(are_numbers_in(edge, 0, 4) and len(edge) == 2 for edge in value):
        return False
    free = [edge for edge in reached_edges(calls) if edge not in marks]
    if any(edge not in free for edge in value) or len(set(value)) < len(value):
        return False
    for place, edge in enumerate(value):
        behind = value[(place + 1) % len(value)]
        if edge[place % 2] != behind[place % 2]:
            return False
    return all([edge[side] for edge in value].count(function) <= 2 for function in range(5) for side in (0, 1))


def all_rings(calls, marks):
    """All rings of reached edges that are no marks; with five functions none has more than six."""
    free = [edge for edge in reached_edges(calls) if edge not in marks]
    rows = [row for many in (4, 6) for row in itertools.permutations(free, many)]
    return [row for row in rows if is_ring(calls, marks, row)]


def is_alike(calls, marks, value):
    """Whether value is a pair as alike tells it, by the words of point [13]."""
    if not isinstance(value, tuple) or len(value) != 2 or not all(is_run(calls, run) for run in value):
        return False
    one, other = [(own_of_tree(calls, run), whole_of_tree(calls, run)) for run in value]
    ticks, others = [dict(zip(calls.edges, passed_of_tree(calls, run))) for run in value]
    return one == other and ticks != others and all(ticks[edge] == others[edge] for edge in marks)


def runs_by_sums(calls, ticks):
    """own, whole and passed of all runs with so many ticks or fewer."""
    found = all_profiles(calls, ticks)
    return [(own, whole, along) for (own, whole), rows in found.items() for along in rows]


def are_enough(calls, marks, sums):
    """Whether no two of these runs have one profile, and are alike in all marks and not alike."""
    seen = {}
    for own, whole, along in sums:
        of_marks = tuple(ticks for edge, ticks in zip(calls.edges, along) if edge in marks)
        if seen.setdefault((own, whole, of_marks), along) != along:
            return False
    return True


def some_of(members):
    """All tuples of these members, in their order."""
    rows = range(len(members) + 1)
    return [tuple(row) for many in rows for row in itertools.combinations(members, many)]


def changed_once(value):
    """Values that are this one but for one place: another member, one fewer, one more, a list."""
    found = [None, "x", [], (), CALLS]
    if isinstance(value, tuple):
        found.extend([list(value), value + value, (value,), value + (value,)])
        for place, member in enumerate(value):
            ahead, behind = value[:place], value[place + 1:]
            found.extend([ahead + behind, ahead + (member, member) + behind, ahead, behind])
            found.extend(ahead + (other,) + behind for other in changed_once(member))
            if behind:
                found.append(ahead + (behind[0], member) + behind[1:])
    elif isinstance(value, int):
        found.extend([value + 1, value - 1, -value, value + 10, bool(value), str(value), (value,)])
    else:
        found.extend([value + "x", value[:1], value.upper()])
    return [other for other in found if repr(other) != repr(value)]
