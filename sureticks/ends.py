"""Between which numbers the ticks along an edge lie, in all runs that fit a profile."""

from sureticks.calls import is_edge
from sureticks.errors import InvalidEdge, InvalidNumber, Undefined
from sureticks.fitting import bar_of, least_along, run_along, shared_out, sharing_of
from sureticks.kinds import is_integer_in


def least(profile, edge):
    """Return the least number of ticks that pass along edge in runs that fit."""
    return least_along(sharing_for(profile, edge), edge)


def greatest(profile, edge):
    """Return the greatest number of ticks that pass along edge in runs that fit."""
    return _greatest_along(sharing_for(profile, edge), edge)


def run_with(profile, edge, many):
    """Return some run that fits in which many ticks pass along edge."""
    sharing = sharing_for(profile, edge)
    if not is_integer_in(many, least_along(sharing, edge), _greatest_along(sharing, edge)):
        raise InvalidNumber(many)
    along = shared_out(sharing.behind(edge, int(many)))
    along[(int(edge[0]), int(edge[1]))] = int(many)
    return run_along(profile, along)


def is_sure(profile, edge):
    """Tell whether the least and the greatest number for edge are one."""
    sharing = sharing_for(profile, edge)
    return least_along(sharing, edge) == _greatest_along(sharing, edge)


def sure(profile):
    """Return the edges that are sure."""
    if bar_of(profile) is not None:
        raise Undefined("run")
    return tuple([edge for edge in profile.calls.edges if is_sure(profile, edge)])


def unlike(profile, edge):
    """Return some pair of runs that fit, in which unlike numbers of ticks pass along edge."""
    low = least(profile, edge)
    high = greatest(profile, edge)
    if low == high:
        raise Undefined("sure")
    return (run_with(profile, edge, low), run_with(profile, edge, high))


def sharing_for(profile, edge):
    """Return what the profile shares out; edge, which may be any value, is an edge then."""
    if not is_edge(profile.calls, edge):
        raise InvalidEdge(edge)
    if bar_of(profile) is not None:
        raise Undefined("run")
    return sharing_of(profile)


def _greatest_along(sharing, edge):
    """Return the greatest number of ticks that pass along edge in what can be shared out.

    If its first function had no other edge, what would be too much then is just what
    cannot pass along this one.
    """
    alone = sharing.alone(edge)
    return sharing.supplies[edge[0]] - alone.surplus(alone.fullest())
