"""Profiles: of each function the ticks of its own and those in its calls as a whole."""

from sureticks.errors import InvalidTicks
from sureticks.kinds import MOST_TICKS, is_integer_in
from sureticks.runs import events_of, own_ticks, trace_of, whole_ticks


class Profile:
    """What each function of calls spent itself, and what passed in its calls as a whole."""

    def __init__(self, calls, own, whole):
        if not _are_ticks(calls, own):
            raise InvalidTicks(own)
        if not _are_ticks(calls, whole):
            raise InvalidTicks(whole)
        # Built anew, so that what is kept is plain even where a class of its own was passed.
        self.calls = calls
        self.own = tuple([int(ticks) for ticks in own])
        self.whole = tuple([int(ticks) for ticks in whole])

    def __eq__(self, other):
        if not isinstance(other, Profile):
            return False
        return self.calls == other.calls and self.own == other.own and self.whole == other.whole


def fits(profile, run):
    """Tell whether run, which may be any value, is a run that fits the profile."""
    events = events_of(profile.calls, run)
    if events is None:
        return False
    return (
        own_ticks(profile.calls, events) == profile.own
        and whole_ticks(profile.calls, events) == profile.whole
    )


def profile_of(calls, run):
    """Return the profile that the run fits."""
    events = trace_of(calls, run)
    return Profile(calls, own_ticks(calls, events), whole_ticks(calls, events))


def _are_ticks(calls, value):
    """Tell whether value is a tuple of a number of ticks for each function."""
    return (
        isinstance(value, tuple)
        and len(value) == calls.functions
        and all([is_integer_in(ticks, 0, MOST_TICKS) for ticks in value])
    )
