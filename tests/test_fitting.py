"""Point [9]: a run that fits a profile, or a bar."""

import itertools
import unittest

from sureticks.calls import Calls
from sureticks.errors import TickError, Undefined
from sureticks.fitting import bar, bar_holds, some_run
from sureticks.profiles import Profile, fits, profile_of
from sureticks.runs import is_run
from tests.samples import (
    ALL_CALLS, CHAIN, Couple, DIAMOND, FORK, FULL, LONE, ONE, Step, chance_runs, is_plain,
    own_of_tree, parts_within, whole_of_tree,
)
from tests.searches import (
    all_bar_values, all_calls, all_profiles, anew, any_values, calls_with, changed_once, is_bar,
)

# 0 may pass to 1 and 2, 1 to 2 and 3; all that passes to 2 comes from 0, as 1 needs all for 3.
NARROW = Calls(4, ((0, 1), (0, 2), (1, 2), (1, 3)))
JUST = Profile(NARROW, (12, 3, 3, 2), (20, 5, 3, 2))
# One tick more that 0 must pass on, one less that 1 must.
JUST_NOT = Profile(NARROW, (11, 4, 3, 2), (20, 5, 3, 2))
# 3 is called by 2 alone, which nothing calls.
APART = Calls(4, ((0, 1), (2, 3)))


def has_bar(profile):
    return any(is_bar(profile, value) for value in all_bar_values(profile.calls.functions))


def moved(profile, giver, taker, ticks):
    """The profile in which some ticks of giver's own are taker's, or None if they are too many."""
    own = list(profile.own)
    own[giver] -= ticks
    own[taker] += ticks
    if own[giver] < 0 or own[taker] > 999999:
        return None
    return Profile(profile.calls, tuple(own), profile.whole)


def edge_of_fitting(profile, giver, taker):
    """How many ticks may just be moved from giver to taker so that no bar comes."""
    low, high = 0, 1000000
    while high - low > 1:
        middle = (low + high) // 2
        other = moved(profile, giver, taker, middle)
        if other is None or has_bar(other):
            high = middle
        else:
            low = middle
    return low


class Fitting(unittest.TestCase):
    def fits_some(self, profile):
        run = some_run(profile)
        self.assertTrue(is_run(profile.calls, run), (profile.own, profile.whole))
        self.assertTrue(is_plain(run))
        self.assertEqual(own_of_tree(profile.calls, run), profile.own)
        self.assertEqual(whole_of_tree(profile.calls, run), profile.whole)
        self.assertIs(fits(profile, run), True)
        parts = [part for _, part, _ in parts_within(run)]
        self.assertLessEqual(len(parts), 400)
        self.assertLessEqual(len([part for part in parts if isinstance(part, tuple)]), 199)
        self.assertEqual(some_run(anew(profile)), run)
        with self.assertRaises(Undefined) as held:
            bar(profile)
        self.assertEqual(held.exception.what, "bar")
        self.assertIsInstance(held.exception, TickError)

    def is_barred(self, profile):
        value = bar(profile)
        self.assertTrue(is_bar(profile, value), (profile.own, profile.whole, value))
        self.assertTrue(is_plain(value))
        self.assertIs(bar_holds(profile, value), True)
        self.assertEqual(bar(anew(profile)), value)
        with self.assertRaises(Undefined) as held:
            some_run(profile)
        self.assertEqual(held.exception.what, "run")
        self.assertIsInstance(held.exception, TickError)
        return value


class TestRunOrBar(Fitting):
    def test_a_worked_profile(self):
        self.fits_some(Profile(CHAIN, (5, 2, 3), (10, 5, 3)))
        self.assertEqual(some_run(Profile(ONE, (7,), (7,))), (0, (7,)))

    def test_all_numbers_0(self):
        for calls in ALL_CALLS + (APART, NARROW):
            zeros = (0,) * calls.functions
            self.fits_some(Profile(calls, zeros, zeros))
            self.assertEqual(profile_of(calls, some_run(Profile(calls, zeros, zeros))).whole, zeros)

    def test_the_greatest_ticks(self):
        for calls in ALL_CALLS:
            rest = (0,) * (calls.functions - 1)
            self.fits_some(Profile(calls, (999999,) + rest, (999999,) + rest))
            self.is_barred(Profile(calls, (999998,) + rest, (999999,) + rest))
            self.is_barred(Profile(calls, (999999,) + rest, (999998,) + rest))
        self.fits_some(Profile(FULL, (0, 0, 0, 0, 999999), (999999,) * 5))
        self.fits_some(Profile(FULL, (0, 0, 0, 1, 999998), (999999, 1, 2, 999999, 999998)))
        self.fits_some(Profile(FULL, (200000,) * 4 + (199999,), (999999, 799999, 599999, 399999, 199999)))
        self.is_barred(Profile(FULL, (999999,) * 5, (999999,) * 5))
        self.is_barred(Profile(FULL, (0,) * 5, (999999,) * 5))
        self.is_barred(Profile(FULL, (999999,) * 5, (0,) * 5))

    def test_profiles_that_just_fit_and_just_do_not(self):
        self.fits_some(JUST)
        self.is_barred(JUST_NOT)
        self.assertIs(bar_holds(JUST, ("much", (0,))), False)
        self.assertIs(bar_holds(JUST_NOT, ("much", (0,))), True)
        for many in (1, 100, 49999):
            own, whole = (12 * many, 3 * many, 3 * many, 2 * many), (20 * many, 5 * many, 3 * many, 2 * many)
            self.fits_some(Profile(NARROW, own, whole))
            self.is_barred(Profile(NARROW, (own[0] - 1, own[1] + 1) + own[2:], whole))

    def test_one_tick_beyond_what_fits(self):
        looked_at = 0
        for calls, run in chance_runs(6) + [(NARROW, (0, (9, (1, (4, (2, (7,)), (3, (1,)))), (2, (6,)))))]:
            profile = profile_of(calls, run)
            for giver, taker in itertools.permutations(range(calls.functions), 2):
                many = edge_of_fitting(profile, giver, taker)
                self.fits_some(moved(profile, giver, taker, many))
                beyond = moved(profile, giver, taker, many + 1)
                if beyond is not None:
                    self.is_barred(beyond)
                    looked_at += 1
        self.assertGreater(looked_at, 100)

    def test_profiles_of_runs(self):
        for calls, run in chance_runs(20):
            self.fits_some(profile_of(calls, run))

    def test_functions_that_are_not_reached(self):
        self.fits_some(Profile(APART, (2, 3, 0, 0), (5, 3, 0, 0)))
        for own, whole in (
            ((2, 3, 1, 0), (5, 3, 1, 0)), ((2, 3, 0, 1), (5, 3, 0, 1)), ((2, 3, 0, 1), (5, 3, 1, 1)),
            ((2, 3, 1, 1), (7, 3, 2, 1)), ((2, 3, 1, 1), (5, 3, 2, 1)), ((0, 0, 0, 1), (0, 0, 1, 1)),
        ):
            self.is_barred(Profile(APART, own, whole))
        self.fits_some(Profile(LONE, (4, 0, 0), (4, 0, 0)))
        self.is_barred(Profile(LONE, (4, 1, 0), (5, 1, 0)))

    def test_a_search_through_all_runs(self):
        for calls, ticks in [(calls, 3) for calls in all_calls(3)] + [(DIAMOND, 4), (NARROW, 4), (APART, 4)]:
            found = all_profiles(calls, ticks)
            for own, whole in found:
                self.fits_some(Profile(calls, own, whole))
            for own in itertools.product(range(3), repeat=calls.functions):
                for whole in itertools.product(range(ticks + 1), repeat=calls.functions):
                    profile = Profile(calls, own, whole)
                    # Most others are barred by their sum alone: only some of these are looked at.
                    if (own, whole) in found:
                        self.assertFalse(has_bar(profile))
                    elif sum(own) == whole[0] or sum(whole) % 5 == 0:
                        self.is_barred(profile)

    def test_five_functions(self):
        for number in range(5, 1024, 13):
            calls = calls_with(5, number)
            found = sorted(all_profiles(calls, 2))
            for own, whole in found:
                self.fits_some(Profile(calls, own, whole))
                for place in range(5):
                    other = whole[:place] + (whole[place] + 1,) + whole[place + 1:]
                    if (own, other) not in found:
                        self.is_barred(Profile(calls, own, other))

    def test_arguments_by_name_and_nothing_changes(self):
        profile = anew(JUST)
        self.assertEqual(some_run(profile=profile), some_run(profile))
        self.assertEqual(bar(profile=JUST_NOT), bar(JUST_NOT))
        self.assertIs(bar_holds(profile=JUST_NOT, value=("much", (0,))), True)
        self.assertIs(bar_holds(value=("much", (0,)), profile=profile), False)
        self.assertEqual(profile, JUST)

    def test_defined_in_their_file(self):
        for thing in (some_run, bar, bar_holds):
            self.assertEqual(thing.__module__, "sureticks.fitting")


class TestBarHolds(Fitting):
    def yes(self, profile, value):
        self.assertIs(bar_holds(profile, value), True)
        self.assertTrue(is_bar(profile, value))

    def no(self, profile, value):
        self.assertIs(bar_holds(profile, value), False)
        self.assertFalse(is_bar(profile, value))

    def test_less(self):
        profile = Profile(CHAIN, (5, 9, 3), (17, 8, 3))
        self.yes(profile, ("less", 1))
        for g in (0, 2, 3, -1, -2, True, None, "1", (1,), [1]):
            self.no(profile, ("less", g))
        # By a tick: a supply of 0 is not less.
        self.no(Profile(CHAIN, (9, 8, 0), (17, 8, 0)), ("less", 1))
        self.yes(Profile(ONE, (1,), (0,)), ("less", 0))
        self.no(Profile(ONE, (1,), (0,)), ("less", False))

    def test_sum(self):
        self.yes(Profile(CHAIN, (5, 2, 3), (11, 5, 3)), ("sum",))
        self.yes(Profile(CHAIN, (5, 2, 3), (9, 5, 3)), ("sum",))
        self.no(Profile(CHAIN, (5, 2, 3), (10, 5, 3)), ("sum",))
        for value in (("sum", 0), ("sum", ()), ("sum", None), "sum", ["sum"], (("sum",),), ("Sum",), ("",)):
            self.no(Profile(CHAIN, (5, 2, 3), (11, 5, 3)), value)
        # 0 has no demand, whatever its whole is.
        self.yes(Profile(ONE, (3,), (4,)), ("sum",))
        self.no(Profile(ONE, (4,), (4,)), ("sum",))

    def test_much(self):
        self.yes(JUST_NOT, ("much", (0,)))
        # With 3, which supplies nothing and may call none, it is as much; with 1 it is no more.
        self.yes(JUST_NOT, ("much", (0, 3)))
        self.no(JUST_NOT, ("much", (0, 1)))
        self.no(JUST_NOT, ("much", (1,)))
        self.no(JUST, ("much", (0,)))
        for some in ((3, 0), (0, 0), (0, 4), (-1, 0), (False,), (0, True), [0], [0, 3], 0, None, "0", ((0,),)):
            self.no(JUST_NOT, ("much", some))

    def test_the_empty_tuple_is_never_too_much(self):
        for calls in ALL_CALLS:
            for many in (0, 1, 999999):
                self.no(Profile(calls, (0,) * calls.functions, (many,) * calls.functions), ("much", ()))

    def test_functions_that_may_call_none(self):
        profile = Profile(FORK, (5, 2, 3), (10, 2, 4))
        self.yes(profile, ("much", (2,)))
        self.yes(Profile(LONE, (0, 0, 0), (0, 1, 0)), ("much", (1,)))
        self.yes(Profile(LONE, (0, 0, 0), (0, 1, 0)), ("much", (0, 1, 2)))
        self.no(Profile(LONE, (0, 0, 0), (0, 1, 0)), ("much", (0, 2)))
        self.no(Profile(LONE, (0, 1, 0), (0, 1, 0)), ("much", (1,)))

    def test_supplies_together(self):
        # 0 supplies one too much by itself, and 1, whose supply is less than 0, makes up for it.
        profile = Profile(FORK, (4, 6, 1), (8, 2, 1))
        self.yes(profile, ("much", (0,)))
        self.no(profile, ("much", (0, 1)))
        self.yes(profile, ("less", 1))

    def test_all_that_may_be_bars(self):
        for calls, top in ((ONE, 4), (LONE, 2), (CHAIN, 3), (FORK, 3)):
            values = all_bar_values(calls.functions)
            for own in itertools.product(range(2), repeat=calls.functions):
                for whole in itertools.product(range(top), repeat=calls.functions):
                    profile = Profile(calls, own, whole)
                    for value in values:
                        self.assertIs(bar_holds(profile, value), is_bar(profile, value), (own, whole, value))

    def test_changed_at_one_place(self):
        profiles = [JUST, JUST_NOT, Profile(FORK, (4, 6, 1), (8, 2, 1)), Profile(LONE, (0, 0, 0), (0, 1, 0))]
        for profile in profiles:
            refused = 0
            for value in all_bar_values(profile.calls.functions):
                for other in changed_once(value):
                    self.assertIs(bar_holds(profile, other), is_bar(profile, other), other)
                    refused += not is_bar(profile, other)
            self.assertGreater(refused, 50)

    def test_any_value(self):
        for profile in (JUST, JUST_NOT, Profile(ONE, (1,), (0,)), Profile(FULL, (0,) * 5, (9,) * 5)):
            for value in any_values() + [profile, profile.calls]:
                self.assertIs(bar_holds(profile, value), False)
                for other in ((value,), (value, 0), (value, (0,)), ("less", value), ("sum", value), ("much", value)):
                    self.assertIs(bar_holds(profile, other), is_bar(profile, other), other)
                self.assertIs(bar_holds(profile, ("much", (0, value))), False)
                self.assertIs(bar_holds(profile, ("much", (value, 0))), False)

    def test_lists_for_tuples(self):
        for value in (["much", (0,)], ("much", [0]), ["less", 0], ["sum"], [["sum"]]):
            self.no(JUST_NOT, value)
            self.no(Profile(ONE, (1,), (0,)), value)

    def test_tuples_and_integers_of_a_class_of_their_own(self):
        self.assertIs(bar_holds(JUST_NOT, Couple("much", (0,))), True)
        self.assertIs(bar_holds(JUST_NOT, ("much", (Step.NONE,))), True)
        self.assertIs(bar_holds(JUST_NOT, ("much", (Step.ONE,))), False)


if __name__ == "__main__":
    unittest.main()
