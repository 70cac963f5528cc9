"""Whether a run fits a profile: its ticks shared out along the edges, or a bar."""

from itertools import combinations

from sureticks.calls import is_function
from sureticks.errors import Undefined
from sureticks.kinds import is_ascending


class Sharing:
    """Edges, with the ticks that each function is to pass along them and to be passed."""

    def __init__(self, edges, supplies, demands):
        self.edges = edges
        self.supplies = supplies
        self.demands = demands

    def callees(self, some):
        """Return the functions that one of some may call."""
        return sorted({f for g, f in self.edges if g in some})

    def surplus(self, some):
        """Return the supplies of some less the demands of all that one of them may call."""
        supply = sum([self.supplies[g] for g in some])
        return supply - sum([self.demands[f] for f in self.callees(some)])

    def fullest(self):
        """Return functions of the greatest surplus; as () has none, it is not below 0."""
        functions = len(self.supplies)
        sets = [some for many in range(functions + 1) for some in combinations(range(functions), many)]
        return max(sets, key=self.surplus)

    def without(self, edge):
        """Return the sharing that does not have this edge."""
        return Sharing([other for other in self.edges if other != edge], self.supplies, self.demands)

    def alone(self, edge):
        """Return the sharing in which the first function of edge has no other edge."""
        kept = [other for other in self.edges if other == edge or other[0] != edge[0]]
        return Sharing(kept, self.supplies, self.demands)

    def behind(self, edge, many):
        """Return what is still to be shared out when so many ticks pass along edge, and no more."""
        supplies = list(self.supplies)
        demands = list(self.demands)
        supplies[edge[0]] -= many
        demands[edge[1]] -= many
        return Sharing(self.without(edge).edges, supplies, demands)


def some_run(profile):
    """Return some run that fits the profile."""
    if bar_of(profile) is not None:
        raise Undefined("run")
    return run_along(profile, shared_out(sharing_of(profile)))


def bar(profile):
    """Return some bar for the profile."""
    found = bar_of(profile)
    if found is None:
        raise Undefined("bar")
    return found


def bar_holds(profile, value):
    """Tell whether value, which may be any, is a bar for the profile."""
    if not isinstance(value, tuple):
        return False
    sharing = sharing_of(profile)
    if len(value) == 1:
        return value[0] == "sum" and sum(sharing.supplies) != sum(sharing.demands)
    if len(value) != 2:
        return False
    if value[0] == "less":
        return is_function(profile.calls.functions, value[1]) and sharing.supplies[value[1]] < 0
    if value[0] == "much":
        return _are_functions(profile.calls.functions, value[1]) and sharing.surplus(value[1]) > 0
    return False


def bar_of(profile):
    """Return some bar for the profile, or None if there is none."""
    bars = [("less", g) for g in range(profile.calls.functions)]
    bars.append(("sum",))
    # If those of the greatest surplus are no bar, no others are.
    bars.append(("much", sharing_of(profile).fullest()))
    for value in bars:
        if bar_holds(profile, value):
            return value
    return None


def sharing_of(profile):
    """Return the supplies and demands of a profile; that of function 0, which has none, is 0."""
    supplies = [whole - own for whole, own in zip(profile.whole, profile.own)]
    return Sharing(list(profile.calls.edges), supplies, [0] + list(profile.whole[1:]))


def least_along(sharing, edge):
    """Return the least number of ticks that pass along edge in what can be shared out.

    Where the edge is not there, some functions have too much to pass on to those that
    they may call, and just this is what must pass along it.
    """
    others = sharing.without(edge)
    return others.surplus(others.fullest())


def shared_out(sharing):
    """Return for each edge how many ticks pass along it, where all can be shared out."""
    along = {}
    left = sharing
    for edge in sharing.edges:
        many = least_along(left, edge)
        along[edge] = many
        left = left.behind(edge, many)
    return along


def run_along(profile, along):
    """Return a run that fits the profile and passes these ticks along its edges.

    Each run in it spends once and calls each function once at most, so no more than 16
    runs with 31 parts are in it: 1, 1, 2, 4 and 8 of the functions.
    """
    left = {edge: along[edge] for edge in profile.calls.edges}
    return (0, _taken_parts(0, profile.whole[0], list(profile.own), left))


def _taken_parts(function, ticks, spent, along):
    """Return the parts of a run of function with so many ticks, and take them from the rest.

    What runs of the function spend and pass is together what passes to it, so there is
    enough left for each of its runs.
    """
    parts = []
    here = min(ticks, spent[function])
    if here > 0:
        spent[function] -= here
        parts.append(here)
    left = ticks - here
    for edge in list(along):
        there = min(left, along[edge])
        if edge[0] == function and there > 0:
            along[edge] -= there
            left -= there
            parts.append((edge[1], _taken_parts(edge[1], there, spent, along)))
    return tuple(parts)


def _are_functions(functions, value):
    """Tell whether value, which may be any, is an ascending tuple of functions."""
    return (
        isinstance(value, tuple)
        and all([is_function(functions, function) for function in value])
        and is_ascending(value)
    )
