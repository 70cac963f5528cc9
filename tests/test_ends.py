"""Points [10] and [12]: between which numbers ticks pass along an edge, and what is sure."""

import itertools
import unittest

from sureticks.calls import Calls
from sureticks.ends import greatest, is_sure, least, run_with, sure, unlike
from sureticks.errors import InvalidEdge, InvalidNumber, TickError, Undefined
from sureticks.profiles import Profile, fits, profile_of
from sureticks.runs import passed
from tests.samples import (
    ALL_CALLS, CHAIN, Couple, DIAMOND, FORK, FULL, LONE, ONE, Step, chance_runs, is_plain,
    own_of_tree, passed_of_tree, whole_of_tree,
)
from tests.searches import all_calls, all_profiles, anew, any_values, calls_with

# 0 and 1 both may pass to 2 and 3.
SQUARE = Calls(4, ((0, 1), (0, 2), (0, 3), (1, 2), (1, 3)))
OPEN = Profile(SQUARE, (1, 2, 5, 4), (12, 6, 5, 4))
BARRED = Profile(SQUARE, (1, 2, 5, 4), (12, 6, 5, 5))
APART = Calls(5, ((0, 1), (2, 3), (2, 4)))
EDGE_LOOKS = (least, greatest, is_sure, unlike)


class Ends(unittest.TestCase):
    def passes(self, profile, run, edge, many):
        """The run fits the profile and passes so many ticks along the edge."""
        self.assertTrue(is_plain(run))
        self.assertIs(fits(profile, run), True)
        self.assertEqual(own_of_tree(profile.calls, run), profile.own)
        self.assertEqual(whole_of_tree(profile.calls, run), profile.whole)
        place = profile.calls.edges.index(edge)
        self.assertEqual(passed_of_tree(profile.calls, run)[place], many)
        self.assertEqual(passed(profile.calls, run)[place], many)

    def has_ends(self, profile, edge, low, high):
        """All that this file's functions tell of an edge is what these ends tell."""
        self.assertEqual((least(profile, edge), greatest(profile, edge)), (low, high))
        self.assertTrue(is_plain((least(profile, edge), greatest(profile, edge))))
        self.assertIs(is_sure(profile, edge), low == high)
        self.assertEqual(edge in sure(profile), low == high)
        for many in {low, high, (low + high) // 2, min(low + 1, high), max(low, high - 1)}:
            self.passes(profile, run_with(profile, edge, many), edge, many)
        for many in (low - 1, high + 1):
            self.refuses_number(profile, edge, many)
        if low == high:
            with self.assertRaises(Undefined) as held:
                unlike(profile, edge)
            self.assertEqual(held.exception.what, "sure")
        else:
            self.is_unlike(profile, edge, unlike(profile, edge))

    def is_unlike(self, profile, edge, pair):
        self.assertIs(type(pair), tuple)
        self.assertEqual(len(pair), 2)
        place = profile.calls.edges.index(edge)
        ticks = [passed_of_tree(profile.calls, run)[place] for run in pair]
        self.assertNotEqual(ticks[0], ticks[1])
        for run, many in zip(pair, ticks):
            self.passes(profile, run, edge, many)

    def refuses_number(self, profile, edge, many):
        with self.assertRaises(InvalidNumber) as held:
            run_with(profile, edge, many)
        self.assertIs(held.exception.value, many)
        self.assertIsInstance(held.exception, TickError)

    def refuses_edge(self, profile, edge):
        for look in EDGE_LOOKS:
            with self.assertRaises(InvalidEdge) as held:
                look(profile, edge)
            self.assertIs(held.exception.value, edge)
            self.assertIsInstance(held.exception, TickError)
        with self.assertRaises(InvalidEdge) as held:
            run_with(profile, edge, None)
        self.assertIs(held.exception.value, edge)


class TestEnds(Ends):
    def test_a_worked_profile(self):
        self.has_ends(OPEN, (0, 1), 6, 6)
        self.has_ends(OPEN, (0, 2), 1, 5)
        self.has_ends(OPEN, (0, 3), 0, 4)
        self.has_ends(OPEN, (1, 2), 0, 4)
        self.has_ends(OPEN, (1, 3), 0, 4)
        self.assertEqual(sure(OPEN), ((0, 1),))

    def test_each_number_between(self):
        for many in range(1, 6):
            self.passes(OPEN, run_with(OPEN, (0, 2), many), (0, 2), many)
            self.passes(OPEN, run_with(OPEN, (1, 2), 5 - many), (1, 2), 5 - many)
        for many in (0, 6, -1, 7, 999999, 10 ** 11, -(10 ** 11)):
            self.refuses_number(OPEN, (0, 2), many)

    def test_all_numbers_0(self):
        for calls in ALL_CALLS + (SQUARE, APART):
            zeros = (0,) * calls.functions
            for edge in calls.edges:
                self.has_ends(Profile(calls, zeros, zeros), edge, 0, 0)
            self.assertEqual(sure(Profile(calls, zeros, zeros)), calls.edges)

    def test_no_edges(self):
        for calls in (ONE, LONE):
            rest = (0,) * (calls.functions - 1)
            self.assertEqual(sure(Profile(calls, (5,) + rest, (5,) + rest)), ())
            self.refuses_edge(Profile(calls, (5,) + rest, (5,) + rest), (0, 1))

    def test_the_greatest_ticks(self):
        profile = Profile(FULL, (0, 0, 0, 0, 999999), (999999,) * 5)
        for edge in FULL.edges:
            many = 999999 if edge[1] == edge[0] + 1 else 0
            self.has_ends(profile, edge, many, many)
        self.assertEqual(sure(profile), FULL.edges)
        profile = Profile(SQUARE, (0, 0, 499999, 500000), (999999, 499999, 499999, 500000))
        self.has_ends(profile, (0, 1), 499999, 499999)
        self.has_ends(profile, (0, 2), 0, 499999)
        self.has_ends(profile, (0, 3), 1, 500000)
        self.has_ends(profile, (1, 3), 0, 499999)

    def test_functions_that_are_not_reached(self):
        profile = Profile(APART, (2, 3, 0, 0, 0), (5, 3, 0, 0, 0))
        self.has_ends(profile, (0, 1), 3, 3)
        self.has_ends(profile, (2, 3), 0, 0)
        self.has_ends(profile, (2, 4), 0, 0)
        self.assertEqual(sure(profile), APART.edges)

    def test_profiles_of_large_runs(self):
        for calls, run in chance_runs(8) + [(SQUARE, (0, ((1, ((2, (70000,)), (3, (5,)))), (2, (9,)), (3, (80,)))))]:
            profile = profile_of(calls, run)
            along = passed_of_tree(calls, run)
            for edge, many in zip(calls.edges, along):
                low, high = least(profile, edge), greatest(profile, edge)
                self.assertTrue(0 <= low <= many <= high)
                self.has_ends(profile, edge, low, high)

    def test_a_search_through_all_runs(self):
        rows = [(calls, 4) for calls in all_calls(3)] + [(SQUARE, 4), (DIAMOND, 4), (APART, 4), (FULL, 2)]
        for calls, ticks in rows + [(calls_with(5, number), 2) for number in range(7, 1024, 61)]:
            for (own, whole), found in all_profiles(calls, ticks).items():
                profile = Profile(calls, own, whole)
                told = []
                for place, edge in enumerate(calls.edges):
                    numbers = {along[place] for along in found}
                    low, high = min(numbers), max(numbers)
                    self.assertEqual(numbers, set(range(low, high + 1)))
                    self.assertEqual((least(profile, edge), greatest(profile, edge)), (low, high))
                    self.assertIs(is_sure(profile, edge), low == high)
                    for many in numbers:
                        self.passes(profile, run_with(profile, edge, many), edge, many)
                    if low == high:
                        told.append(edge)
                    else:
                        self.is_unlike(profile, edge, unlike(profile, edge))
                self.assertEqual(sure(profile), tuple(told))

    def test_no_runs(self):
        barred = [
            BARRED, Profile(SQUARE, (7, 0, 0, 0), (6, 0, 0, 0)), Profile(SQUARE, (1, 1, 1, 1), (9, 9, 9, 9)),
            Profile(SQUARE, (1, 2, 6, 3), (12, 6, 5, 4)),
        ]
        for profile in barred:
            for edge in SQUARE.edges:
                for look in EDGE_LOOKS:
                    with self.assertRaises(Undefined) as held:
                        look(profile, edge)
                    self.assertEqual(held.exception.what, "run")
            with self.assertRaises(Undefined) as held:
                sure(profile)
            self.assertEqual(held.exception.what, "run")
            self.assertIsInstance(held.exception, TickError)

    def test_no_runs_and_no_edges(self):
        for profile in (Profile(ONE, (1,), (2,)), Profile(ONE, (2,), (1,)), Profile(LONE, (0, 1, 0), (1, 1, 0))):
            with self.assertRaises(Undefined) as held:
                sure(profile)
            self.assertEqual(held.exception.what, "run")

    def test_what_is_no_edge(self):
        for profile in (OPEN, BARRED):
            for edge in itertools.product(range(-1, 5), repeat=2):
                if edge not in SQUARE.edges:
                    self.refuses_edge(profile, edge)
            for value in any_values():
                for edge in (value, (value, 1), (0, value), (value, value)):
                    if repr(edge) != "(0, 1)":
                        self.refuses_edge(profile, edge)
            for edge in ([0, 1], (0, 1, 2), (0,), (False, 1), (0, True), "01", ((0, 1),), (0, "1"), SQUARE, profile):
                self.refuses_edge(profile, edge)
        self.refuses_edge(Profile(CHAIN, (1, 1, 1), (3, 2, 1)), (0, 2))
        self.refuses_edge(Profile(CHAIN, (1, 1, 1), (3, 2, 1)), (1, 0))

    def test_what_is_no_number(self):
        for many in any_values() + [True, False, "1", (1,), [1], None, OPEN]:
            if not (type(many) is int and 1 <= many <= 5):
                self.refuses_number(OPEN, (0, 2), many)
        # 0 and 1 are numbers here, the bools beside them are none.
        profile = Profile(SQUARE, (0, 1, 1, 0), (2, 1, 1, 0))
        self.has_ends(profile, (0, 1), 1, 1)
        self.has_ends(profile, (0, 3), 0, 0)
        self.refuses_number(profile, (0, 1), True)
        self.refuses_number(profile, (0, 3), False)

    def test_errors_in_their_order(self):
        self.refuses_edge(BARRED, (1, 0))
        with self.assertRaises(Undefined) as held:
            run_with(BARRED, (0, 2), None)
        self.assertEqual(held.exception.what, "run")
        with self.assertRaises(InvalidEdge):
            run_with(BARRED, [0, 2], None)
        with self.assertRaises(Undefined) as held:
            unlike(BARRED, (0, 1))
        self.assertEqual(held.exception.what, "run")
        with self.assertRaises(Undefined) as held:
            unlike(OPEN, (0, 1))
        self.assertEqual(held.exception.what, "sure")

    def test_equal_arguments_and_names(self):
        profile, edge = anew(OPEN), tuple([0, 2])
        for look in EDGE_LOOKS:
            self.assertEqual(look(profile, edge), look(OPEN, (0, 2)))
            self.assertEqual(look(edge=edge, profile=profile), look(OPEN, (0, 2)))
        self.assertEqual(sure(profile=profile), sure(OPEN))
        for many in range(1, 6):
            self.assertEqual(run_with(profile, edge, many), run_with(OPEN, (0, 2), many))
            self.assertEqual(run_with(many=many, edge=edge, profile=profile), run_with(OPEN, (0, 2), many))
        self.assertEqual(profile, OPEN)

    def test_tuples_and_integers_of_a_class_of_their_own(self):
        edge = Couple(Step.NONE, Step.TWO)
        for look in EDGE_LOOKS:
            self.assertEqual(look(OPEN, edge), look(OPEN, (0, 2)))
        run = run_with(OPEN, edge, Step.TWO)
        self.passes(OPEN, run, (0, 2), 2)
        self.assertTrue(is_plain(unlike(OPEN, edge)))

    def test_what_is_returned_is_plain(self):
        self.assertTrue(is_plain((sure(OPEN), unlike(OPEN, (0, 2)), run_with(OPEN, (0, 2), 3))))
        self.assertIs(type(is_sure(OPEN, (0, 1))), bool)

    def test_sure_is_ascending(self):
        for calls, run in chance_runs(10):
            edges = sure(profile_of(calls, run))
            self.assertEqual(edges, tuple(sorted(set(edges))))
            # All that function 1 is passed comes from 0.
            self.assertEqual((0, 1) in edges, (0, 1) in calls.edges)
        self.assertEqual(sure(Profile(FORK, (1, 1, 1), (3, 2, 1))), FORK.edges)
        self.assertEqual(sure(Profile(FULL, (1, 1, 1, 1, 1), (5, 1, 1, 1, 1))), FULL.edges)

    def test_defined_in_their_file(self):
        for thing in EDGE_LOOKS + (run_with, sure):
            self.assertEqual(thing.__module__, "sureticks.ends")


if __name__ == "__main__":
    unittest.main()
