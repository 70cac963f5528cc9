"""Point [8]: profiles, and the runs that fit them."""

import itertools
import unittest

from sureticks.calls import Calls
from sureticks.errors import InvalidRun, InvalidTicks, TickError
from sureticks.profiles import Profile, fits, profile_of
from sureticks.runs import own, trace_of, whole
from tests.samples import (
    ALL_CALLS, CHAIN, Couple, DIAMOND, FORK, FULL, LONE, ONE, Step, chance_runs, is_plain, odd_values,
    own_of_tree, small_runs, whole_of_tree,
)

RUN = (0, (5, (1, (2, (2, (3,))))))
PROFILE = Profile(CHAIN, (5, 2, 3), (10, 5, 3))


class TestProfiles(unittest.TestCase):
    def refused(self, calls, own_ticks, whole_ticks, which):
        with self.assertRaises(InvalidTicks) as held:
            Profile(calls, own_ticks, whole_ticks)
        self.assertIs(held.exception.value, which)
        self.assertIsInstance(held.exception, TickError)
        self.assertIsInstance(held.exception, ValueError)

    def test_attributes(self):
        self.assertEqual(PROFILE.calls, CHAIN)
        self.assertEqual(PROFILE.own, (5, 2, 3))
        self.assertEqual(PROFILE.whole, (10, 5, 3))
        self.assertTrue(is_plain((PROFILE.own, PROFILE.whole)))
        self.assertEqual(set(vars(PROFILE)), {"calls", "own", "whole"})

    def test_any_numbers_may_stand(self):
        for ticks in ((0, 0, 0), (999999,) * 3, (0, 999999, 7)):
            for others in ((0, 0, 0), (999999,) * 3, (1, 2, 3)):
                profile = Profile(CHAIN, ticks, others)
                self.assertEqual((profile.own, profile.whole), (ticks, others))
        self.assertEqual(Profile(ONE, (0,), (999999,)).whole, (999999,))
        self.assertEqual(Profile(FULL, (1, 2, 3, 4, 5), (6, 7, 8, 9, 10)).own, (1, 2, 3, 4, 5))

    def test_a_number_for_each_function(self):
        for calls in ALL_CALLS:
            zeros = (0,) * calls.functions
            for many in range(8):
                ticks = (1,) * many
                if many == calls.functions:
                    self.assertEqual(Profile(calls, ticks, ticks).own, ticks)
                else:
                    self.refused(calls, ticks, zeros, ticks)
                    self.refused(calls, zeros, ticks, ticks)

    def test_numbers_up_to_999999(self):
        for wrong in (-1, -999999, 1000000, 10 ** 11, True, False, None, "1", (1,), [1], 1.0, (), CHAIN):
            for place in range(3):
                ticks = (1,) * place + (wrong,) + (1,) * (2 - place)
                self.refused(CHAIN, ticks, (1, 1, 1), ticks)
                self.refused(CHAIN, (1, 1, 1), ticks, ticks)

    def test_any_value_for_ticks(self):
        for calls in ALL_CALLS:
            zeros = (0,) * calls.functions
            for value in odd_values() + [list(zeros), {}, "0" * calls.functions]:
                self.refused(calls, value, zeros, value)
                self.refused(calls, zeros, value, value)

    def test_own_is_refused_first(self):
        for one, other in itertools.product(odd_values(), odd_values()[:8]):
            self.refused(FORK, one, other, one)
        ahead, behind = (1, 2), (3, 4)
        self.refused(FORK, ahead, behind, ahead)

    def test_equality(self):
        self.assertEqual(PROFILE, Profile(Calls(3, ((0, 1), (1, 2))), (5, 2, 3), (10, 5, 3)))
        self.assertFalse(PROFILE != Profile(CHAIN, (5, 2, 3), (10, 5, 3)))
        self.assertNotEqual(PROFILE, Profile(FORK, (5, 2, 3), (10, 5, 3)))
        self.assertNotEqual(PROFILE, Profile(CHAIN, (5, 2, 4), (10, 5, 3)))
        self.assertNotEqual(PROFILE, Profile(CHAIN, (5, 2, 3), (10, 5, 4)))
        self.assertNotEqual(PROFILE, Profile(CHAIN, (10, 5, 3), (5, 2, 3)))
        self.assertNotEqual(Profile(ONE, (1,), (1,)), Profile(LONE, (1, 0, 0), (1, 0, 0)))

    def test_equal_to_nothing_else(self):
        others = odd_values() + [CHAIN, (5, 2, 3), (CHAIN, (5, 2, 3), (10, 5, 3)), RUN, object()]
        for other in others:
            self.assertIs(PROFILE == other, False)
            self.assertIs(other == PROFILE, False)
            self.assertIs(PROFILE != other, True)

    def test_not_iterable(self):
        for look in (iter, list, tuple, len):
            with self.assertRaises(TypeError):
                look(PROFILE)
        with self.assertRaises(TypeError):
            5 in PROFILE

    def test_arguments_by_name(self):
        self.assertEqual(Profile(calls=CHAIN, own=(5, 2, 3), whole=(10, 5, 3)), PROFILE)
        self.assertEqual(Profile(whole=(10, 5, 3), own=(5, 2, 3), calls=CHAIN), PROFILE)
        self.assertIs(fits(profile=PROFILE, run=RUN), True)
        self.assertIs(fits(run=(0, ()), profile=PROFILE), False)
        self.assertEqual(profile_of(calls=CHAIN, run=RUN), PROFILE)
        self.assertEqual(profile_of(run=RUN, calls=CHAIN), PROFILE)

    def test_what_is_kept_is_plain(self):
        calls = Calls(2, ((0, 1),))
        profile = Profile(calls, Couple(Step.ONE, 0), Couple(2, Step.TWO))
        self.assertEqual(profile, Profile(calls, (1, 0), (2, 2)))
        self.assertTrue(is_plain((profile.own, profile.whole)))
        run = Couple(Step.NONE, (Couple(Step.ONE, (Step.TWO,)),))
        self.assertTrue(is_plain((profile_of(calls, run).own, profile_of(calls, run).whole)))

    def test_a_refused_list_is_not_changed(self):
        ticks = [0, [0], 0]
        self.refused(FORK, ticks, (0, 0, 0), ticks)
        self.assertEqual(ticks, [0, [0], 0])

    def test_eq_is_defined_in_the_class(self):
        self.assertIn("__eq__", vars(Profile))
        for thing in (Profile, fits, profile_of):
            self.assertEqual(thing.__module__, "sureticks.profiles")


class TestFits(unittest.TestCase):
    def test_a_worked_run(self):
        self.assertIs(fits(PROFILE, RUN), True)
        self.assertIs(fits(PROFILE, (0, ((1, (1, (2, (1,)))), 2, (1, (1, (2, (1, 1)))), 3))), True)

    def test_own_and_whole_must_be_these(self):
        # The same own, but what 1 and 2 have comes along other edges.
        self.assertIs(fits(Profile(FORK, (5, 2, 3), (10, 5, 3)), RUN), True)
        self.assertIs(fits(Profile(FORK, (5, 2, 3), (10, 5, 3)), (0, (5, (1, (2,)), (2, (3,))))), False)
        self.assertIs(fits(Profile(FORK, (5, 2, 3), (10, 2, 3)), (0, (5, (1, (2,)), (2, (3,))))), True)
        for place in range(3):
            for many in (-1, 1):
                ticks = [5, 2, 3]
                ticks[place] += many
                self.assertIs(fits(Profile(CHAIN, tuple(ticks), (10, 5, 3)), RUN), False)
                ticks = [10, 5, 3]
                ticks[place] += many
                self.assertIs(fits(Profile(CHAIN, (5, 2, 3), tuple(ticks)), RUN), False)

    def test_the_run_must_be_one_of_the_calls(self):
        run = (0, ((1, ()), (2, ())))
        self.assertIs(fits(Profile(FORK, (0, 0, 0), (0, 0, 0)), run), True)
        self.assertIs(fits(Profile(CHAIN, (0, 0, 0), (0, 0, 0)), run), False)
        self.assertIs(fits(Profile(LONE, (0, 0, 0), (0, 0, 0)), run), False)
        self.assertIs(fits(Profile(LONE, (0, 0, 0), (0, 0, 0)), (0, ())), True)

    def test_any_value(self):
        for calls in ALL_CALLS:
            zeros = (0,) * calls.functions
            for ticks in (zeros, (999999,) + zeros[1:]):
                profile = Profile(calls, ticks, ticks)
                for value in odd_values() + [profile, trace_of(calls, (0, ()))]:
                    self.assertIs(fits(profile, value), False)
        for value in odd_values():
            self.assertIs(fits(Profile(FORK, (1, 0, 0), (1, 0, 0)), (0, (value, 1))), False)

    def test_bools_and_lists_in_runs(self):
        profile = Profile(FORK, (0, 1, 0), (1, 1, 0))
        self.assertIs(fits(profile, (0, ((1, (1,)),))), True)
        for run in (
            (False, ((1, (1,)),)), (0, ((True, (1,)),)), (0, ((1, (True,)),)), [0, ((1, (1,)),)],
            (0, [(1, (1,))]), (0, ([1, (1,)],)), (0, ((1, [1]),)),
        ):
            self.assertIs(fits(profile, run), False)

    def test_the_bounds_of_runs(self):
        zeros = Profile(CHAIN, (0, 0, 0), (0, 0, 0))
        self.assertIs(fits(zeros, (0, ((1, ()),) * 199)), True)
        self.assertIs(fits(zeros, (0, ((1, ()),) * 200)), False)
        self.assertIs(fits(Profile(ONE, (400,), (400,)), (0, (1,) * 400)), True)
        self.assertIs(fits(Profile(ONE, (401,), (401,)), (0, (1,) * 401)), False)
        self.assertIs(fits(Profile(ONE, (999999,), (999999,)), (0, (999999,))), True)
        self.assertIs(fits(Profile(ONE, (999999,), (999999,)), (0, (999998, 1))), True)
        self.assertIs(fits(Profile(ONE, (999999,), (999999,)), (0, (999999, 1))), False)

    def test_all_pairs_of_small_runs(self):
        runs = small_runs(DIAMOND, 0, 7, (1,))
        told = [(own_of_tree(DIAMOND, run), whole_of_tree(DIAMOND, run)) for run in runs]
        for ticks in sorted(set(told)):
            profile = Profile(DIAMOND, ticks[0], ticks[1])
            for run, others in zip(runs, told):
                self.assertIs(fits(profile, run), ticks == others)


class TestProfileOf(unittest.TestCase):
    def test_a_worked_run(self):
        self.assertEqual(profile_of(CHAIN, RUN), PROFILE)
        self.assertEqual(profile_of(FORK, RUN), Profile(FORK, (5, 2, 3), (10, 5, 3)))

    def test_no_parts(self):
        for calls in ALL_CALLS:
            zeros = (0,) * calls.functions
            self.assertEqual(profile_of(calls, (0, ())), Profile(calls, zeros, zeros))

    def test_it_has_the_sums_and_the_run_fits_it(self):
        for calls, run in chance_runs(30):
            profile = profile_of(calls, run)
            self.assertIsInstance(profile, Profile)
            self.assertEqual(profile.calls, calls)
            self.assertEqual((profile.own, profile.whole), (own(calls, run), whole(calls, run)))
            self.assertIs(fits(profile, run), True)
            self.assertEqual(profile, profile_of(calls, run))

    def test_the_greatest_ticks(self):
        run = (0, ((1, ((2, (999999,)),)),))
        self.assertEqual(profile_of(CHAIN, run), Profile(CHAIN, (0, 0, 999999), (999999,) * 3))

    def test_any_value(self):
        for calls in ALL_CALLS:
            for value in odd_values() + [(0, ((0, ()),)), (1, ()), (0, (0,)), (0, (1,) * 401)]:
                with self.assertRaises(InvalidRun) as held:
                    profile_of(calls, value)
                self.assertIs(held.exception.value, value)
                self.assertIsInstance(held.exception, TickError)
                self.assertIsInstance(held.exception, ValueError)


if __name__ == "__main__":
    unittest.main()
