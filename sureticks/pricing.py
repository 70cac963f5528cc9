"""Prices, which show that no run that fits passes more, or less, along an edge."""

from sureticks.calls import is_edge
from sureticks.ends import sharing_for
from sureticks.fitting import sharing_of
from sureticks.kinds import is_integer, is_integer_in, is_pair

MOST_PRICE = 9


def at_most(profile, edge):
    """Return some prices that show at most the greatest number for edge."""
    alone = sharing_for(profile, edge).alone(edge)
    some = alone.fullest()
    callees = alone.callees(some)
    functions = range(profile.calls.functions)
    # Their worth is the supply of the edge's first function less the surplus of some.
    up = [int(g == edge[0]) - int(g in some) for g in functions]
    down = [int(f in callees) for f in functions]
    return (tuple(up), tuple(down))


def at_least(profile, edge):
    """Return some prices that show at least the least number for edge."""
    others = sharing_for(profile, edge).without(edge)
    some = others.fullest()
    callees = others.callees(some)
    functions = range(profile.calls.functions)
    # Their worth is the surplus of some.
    up = [int(g in some) for g in functions]
    down = [-int(f in callees) for f in functions]
    return (tuple(up), tuple(down))


def at_most_holds(profile, edge, many, value):
    """Tell whether value is prices that show at most many; all three may be any value."""
    if not _may_show(profile, edge, many, value):
        return False
    return (
        _worth(profile, value) <= many
        and _sum_along(value, edge) >= 1
        and all([_sum_along(value, other) >= 0 for other in profile.calls.edges if other != edge])
    )


def at_least_holds(profile, edge, many, value):
    """Tell whether value is prices that show at least many; all three may be any value."""
    if not _may_show(profile, edge, many, value):
        return False
    return (
        _worth(profile, value) >= many
        and _sum_along(value, edge) <= 1
        and all([_sum_along(value, other) <= 0 for other in profile.calls.edges if other != edge])
    )


def _may_show(profile, edge, many, value):
    """Tell whether these are an edge, an integer and prices."""
    return (
        is_edge(profile.calls, edge)
        and is_integer(many)
        and is_pair(value)
        and _are_prices(profile, value[0])
        and _are_prices(profile, value[1])
        # Function 0 has no demand, so it has no price for one.
        and value[1][0] == 0
    )


def _are_prices(profile, value):
    """Tell whether value is a tuple of a price for each function."""
    return (
        isinstance(value, tuple)
        and len(value) == profile.calls.functions
        and all([is_integer_in(price, -MOST_PRICE, MOST_PRICE) for price in value])
    )


def _worth(profile, prices):
    """Return the sum of all supplies and demands, each times its price."""
    sharing = sharing_of(profile)
    up, down = prices
    supplies = sum([ticks * price for ticks, price in zip(sharing.supplies, up)])
    return supplies + sum([ticks * price for ticks, price in zip(sharing.demands, down)])


def _sum_along(prices, edge):
    """Return the price for the supply of its first and the demand of its second function."""
    return prices[0][edge[0]] + prices[1][edge[1]]
