"""Point [11]: prices, which show that no run passes more, or less."""

import itertools
import unittest

from sureticks.calls import Calls
from sureticks.ends import greatest, least
from sureticks.errors import InvalidEdge, TickError, Undefined
from sureticks.pricing import at_least, at_least_holds, at_most, at_most_holds
from sureticks.profiles import Profile, profile_of
from tests.samples import ALL_CALLS, Couple, DIAMOND, FORK, FULL, ONE, Step, chance_runs, is_plain
from tests.searches import (
    all_calls, all_profiles, anew, any_values, are_prices, calls_with, changed_once, show_at_least,
    show_at_most, worth,
)

# 0 and 1 both may pass to 2 and 3.
SQUARE = Calls(4, ((0, 1), (0, 2), (0, 3), (1, 2), (1, 3)))
OPEN = Profile(SQUARE, (1, 2, 5, 4), (12, 6, 5, 4))
BARRED = Profile(SQUARE, (1, 2, 5, 4), (12, 6, 5, 5))
EDGE = (0, 2)
# The numbers for EDGE are from 1 to 5. All that 0 supplies is 11, 1 supplies 4; the demands are 6, 5 and 4.
MOST = ((0, 0, 0, 0), (0, 0, 1, 0))
LEAST = ((1, 0, 0, 0), (0, -1, 0, -1))
ZEROS = ((0, 0, 0, 0), (0, 0, 0, 0))


def replaced(prices, side, place, price):
    """These prices with another one at one place."""
    rows = [list(prices[0]), list(prices[1])]
    rows[side][place] = price
    return (tuple(rows[0]), tuple(rows[1]))


class Pricing(unittest.TestCase):
    def shows(self, profile, edge):
        """Prices that just show the ends of the edge are told, and no others are taken."""
        low, high = least(profile, edge), greatest(profile, edge)
        most, fewest = at_most(profile, edge), at_least(profile, edge)
        self.assertTrue(is_plain((most, fewest)))
        self.assertTrue(show_at_most(profile, edge, high, most), (profile.own, profile.whole, edge, most))
        self.assertTrue(show_at_least(profile, edge, low, fewest), (profile.own, profile.whole, edge, fewest))
        for many in (high, high + 1, 10 ** 11):
            self.assertIs(at_most_holds(profile, edge, many, most), True)
        for many in (high - 1, -1, -(10 ** 11)):
            self.assertIs(at_most_holds(profile, edge, many, most), False)
        for many in (low, low - 1, -(10 ** 11)):
            self.assertIs(at_least_holds(profile, edge, many, fewest), True)
        for many in (low + 1, 1000000, 10 ** 11):
            self.assertIs(at_least_holds(profile, edge, many, fewest), False)


class TestPrices(Pricing):
    def test_a_worked_profile(self):
        self.assertEqual((worth(OPEN, MOST), worth(OPEN, LEAST)), (5, 1))
        self.assertIs(at_most_holds(OPEN, EDGE, 5, MOST), True)
        self.assertIs(at_least_holds(OPEN, EDGE, 1, LEAST), True)
        for edge in SQUARE.edges:
            self.shows(OPEN, edge)

    def test_all_numbers_0_and_the_greatest(self):
        for calls in ALL_CALLS:
            for edge in calls.edges:
                zeros = (0,) * calls.functions
                self.shows(Profile(calls, zeros, zeros), edge)
        for edge in FULL.edges:
            self.shows(Profile(FULL, (0, 0, 0, 0, 999999), (999999,) * 5), edge)
            self.shows(Profile(FULL, (0, 0, 0, 1, 999998), (999999, 1, 2, 999999, 999998)), edge)

    def test_profiles_of_large_runs(self):
        for calls, run in chance_runs(8):
            for edge in calls.edges:
                self.shows(profile_of(calls, run), edge)

    def test_functions_that_are_not_reached(self):
        calls = Calls(5, ((0, 1), (2, 3), (2, 4)))
        for edge in calls.edges:
            self.shows(Profile(calls, (2, 3, 0, 0, 0), (5, 3, 0, 0, 0)), edge)

    def test_small_profiles(self):
        rows = [(calls, 3) for calls in all_calls(3)] + [(SQUARE, 3), (DIAMOND, 3), (FULL, 2)]
        for calls, ticks in rows + [(calls_with(5, number), 2) for number in range(7, 1024, 101)]:
            for own, whole in all_profiles(calls, ticks):
                for edge in calls.edges:
                    self.shows(Profile(calls, own, whole), edge)

    def test_prices_show_just_what_is_true(self):
        # There are prices from -1 to 1 for just what is true of all runs, and none for what is not.
        for profile, span in (
            (Profile(FORK, (1, 1, 1), (3, 2, 1)), 2), (Profile(FORK, (0, 1, 2), (3, 1, 2)), 2),
            (Profile(SQUARE, (0, 0, 1, 1), (2, 1, 1, 1)), 1), (Profile(SQUARE, (0, 0, 1, 2), (3, 2, 1, 2)), 1),
        ):
            sides = list(itertools.product(range(-span, span + 1), repeat=profile.calls.functions))
            rows = [(up, down) for up in sides for down in sides if down[0] == 0]
            for edge in profile.calls.edges:
                for many in range(-1, 4):
                    most = any(at_most_holds(profile, edge, many, row) for row in rows)
                    fewest = any(at_least_holds(profile, edge, many, row) for row in rows)
                    self.assertIs(most, many >= greatest(profile, edge))
                    self.assertIs(fewest, many <= least(profile, edge))

    def test_errors(self):
        for look in (at_most, at_least):
            for profile in (OPEN, BARRED):
                for value in any_values() + [(1, 0), (2, 3), (False, 1), (0, True), [0, 1], (0, 1, 2)]:
                    if repr(value) != "(0, 1)":
                        with self.assertRaises(InvalidEdge) as held:
                            look(profile, value)
                        self.assertIs(held.exception.value, value)
                        self.assertIsInstance(held.exception, TickError)
            for edge in SQUARE.edges:
                with self.assertRaises(Undefined) as held:
                    look(BARRED, edge)
                self.assertEqual(held.exception.what, "run")

    def test_equal_arguments_and_names(self):
        profile = anew(OPEN)
        for edge in SQUARE.edges:
            for look in (at_most, at_least):
                self.assertEqual(look(profile, tuple(list(edge))), look(OPEN, edge))
                self.assertEqual(look(edge=edge, profile=profile), look(OPEN, edge))
        self.assertIs(at_most_holds(value=MOST, many=5, edge=EDGE, profile=profile), True)
        self.assertIs(at_least_holds(value=LEAST, many=1, edge=EDGE, profile=profile), True)
        self.assertEqual(profile, OPEN)

    def test_tuples_and_integers_of_a_class_of_their_own(self):
        edge = Couple(Step.NONE, Step.TWO)
        self.assertEqual((at_most(OPEN, edge), at_least(OPEN, edge)), (at_most(OPEN, EDGE), at_least(OPEN, EDGE)))
        self.assertTrue(is_plain((at_most(OPEN, edge), at_least(OPEN, edge))))
        self.assertIs(at_most_holds(OPEN, edge, 5, Couple(MOST[0], (Step.NONE, 0, Step.ONE, 0))), True)

    def test_defined_in_their_file(self):
        for thing in (at_most, at_least, at_most_holds, at_least_holds):
            self.assertEqual(thing.__module__, "sureticks.pricing")


class TestLookers(Pricing):
    def both(self, profile, edge, many, value, most, fewest):
        self.assertIs(at_most_holds(profile, edge, many, value), most, (edge, many, value))
        self.assertIs(at_least_holds(profile, edge, many, value), fewest, (edge, many, value))

    def test_the_worth(self):
        self.both(OPEN, EDGE, 5, MOST, True, False)
        self.both(OPEN, EDGE, 6, MOST, True, False)
        self.both(OPEN, EDGE, 4, MOST, False, False)
        self.both(OPEN, EDGE, 1, LEAST, False, True)
        self.both(OPEN, EDGE, 0, LEAST, False, True)
        self.both(OPEN, EDGE, 2, LEAST, False, False)
        self.both(OPEN, EDGE, 0, ZEROS, False, True)
        self.both(OPEN, EDGE, 1, ZEROS, False, False)
        self.both(OPEN, EDGE, -1, ZEROS, False, True)

    def test_the_sums_of_edges(self):
        # The sum of EDGE is 1, or more, or less; those of others are 0, or not.
        for prices, most, fewest in (
            (replaced(MOST, 1, 2, 2), True, False), (replaced(MOST, 1, 2, 9), True, False),
            (replaced(MOST, 1, 2, 0), False, False), (replaced(MOST, 0, 1, -1), False, False),
            (replaced(replaced(MOST, 1, 3, 1), 0, 1, -1), True, False), (replaced(MOST, 1, 3, -1), False, False),
            (replaced(MOST, 1, 3, 1), True, False), (replaced(MOST, 0, 0, 1), True, False),
        ):
            self.both(OPEN, EDGE, 999, prices, most, fewest)
        for prices, fewest in (
            (LEAST, True), (replaced(LEAST, 1, 2, -1), True), (replaced(LEAST, 1, 2, 1), False),
            (replaced(LEAST, 1, 1, 0), False), (replaced(LEAST, 1, 1, -2), True), (replaced(LEAST, 0, 1, 1), False),
            (replaced(LEAST, 0, 1, -3), True), (replaced(LEAST, 0, 0, 2), False), (replaced(LEAST, 0, 0, 0), True),
        ):
            self.both(OPEN, EDGE, -999, prices, False, fewest)

    def test_functions_without_edges_have_any_price(self):
        # 2 and 3 may call none, so their supplies, which are 0, have any price; 0 has no demand.
        for price in (-9, -1, 0, 1, 9):
            self.both(OPEN, EDGE, 5, replaced(replaced(MOST, 0, 2, price), 0, 3, -price), True, False)
            self.both(OPEN, EDGE, 1, replaced(replaced(LEAST, 0, 2, price), 0, 3, -price), False, True)

    def test_numbers_from_minus_9_to_9(self):
        for price, fine in ((9, True), (10, False), (10 ** 11, False), (-9, True), (-10, False), (-(10 ** 11), False)):
            self.both(OPEN, EDGE, 5, replaced(MOST, 0, 3, price), fine, False)
            self.both(OPEN, EDGE, 1, replaced(LEAST, 0, 3, price), False, fine)
        for price, fine in ((9, True), (10, False)):
            self.both(OPEN, EDGE, 9999, replaced(MOST, 1, 3, price), fine, False)
            self.both(OPEN, EDGE, -9999, replaced(LEAST, 1, 1, -price), False, fine)

    def test_the_number_of_0_in_down_is_0(self):
        for price in (-9, -1, 1, 9, False, None, (), "0"):
            self.both(OPEN, EDGE, 5, replaced(MOST, 1, 0, price), False, False)
            self.both(OPEN, EDGE, 1, replaced(LEAST, 1, 0, price), False, False)

    def test_kinds_of_prices(self):
        for wrong in (True, False, None, "0", (), (0,), [0], OPEN):
            for side, place in itertools.product((0, 1), range(4)):
                self.both(OPEN, EDGE, 99, replaced(MOST, side, place, wrong), False, False)
                self.both(OPEN, EDGE, -99, replaced(LEAST, side, place, wrong), False, False)
        for up, down in (MOST, LEAST, ZEROS):
            for value in (
                [up, down], (list(up), down), (up, list(down)), (up,), (up, down, up), (up, down, ()), up, up + down,
                (up[:3], down), (up, down[:3]), (up + (0,), down), (up, down + (0,)), ((), ()), (), ((up,), (down,)),
            ):
                for many in (-99, 99):
                    self.both(OPEN, EDGE, many, value, False, False)

    def test_any_value(self):
        for value in any_values() + [OPEN, SQUARE]:
            for profile in (OPEN, BARRED, Profile(ONE, (1,), (1,))):
                self.both(profile, EDGE, 5, value, False, False)
                self.both(profile, EDGE, 5, (value, value), False, False)
                self.both(profile, EDGE, 5, (MOST[0], value), False, False)
                self.both(profile, EDGE, -5, (value, LEAST[1]), False, False)
            if not isinstance(value, int) or isinstance(value, bool):
                self.both(OPEN, EDGE, value, MOST, False, False)
                self.both(OPEN, EDGE, value, LEAST, False, False)
                self.both(OPEN, EDGE, value, value, False, False)
            if repr(value) != "(0, 1)":
                self.both(OPEN, value, 5, MOST, False, False)
                self.both(OPEN, value, -5, LEAST, False, False)
                self.both(OPEN, (0, value), 5, MOST, False, False)
            self.both(OPEN, value, value, value, False, False)

    def test_what_is_no_edge(self):
        for edge in ((2, 0), (0, 4), (2, 3), [0, 2], (False, 2), (0, 2, 0), (0,), "02", None, ((0, 2),)):
            self.both(OPEN, edge, 5, MOST, False, False)
            self.both(OPEN, edge, 1, LEAST, False, False)
        self.both(Profile(ONE, (1,), (1,)), (0, 1), 1, ((0,), (0,)), False, False)

    def test_bools_for_the_number(self):
        profile = Profile(FORK, (1, 1, 1), (3, 2, 1))
        self.assertEqual((least(profile, (0, 2)), greatest(profile, (1, 2))), (0, 1))
        for many, of in ((1, True), (0, False)):
            for edge in FORK.edges:
                fewest = at_least(profile, edge)
                most = at_most(profile, edge)
                self.assertIs(at_most_holds(profile, edge, of, most), False)
                self.assertIs(at_least_holds(profile, edge, of, fewest), False)
                self.assertIs(at_most_holds(profile, edge, many, most), many >= greatest(profile, edge))
                self.assertIs(at_least_holds(profile, edge, many, fewest), many <= least(profile, edge))

    def test_where_no_run_fits(self):
        # Prices are what the words say also then; their worth may be any integer.
        self.assertEqual(worth(BARRED, MOST), 5)
        self.both(BARRED, EDGE, 5, MOST, True, False)
        profile = Profile(SQUARE, (9, 0, 0, 0), (0, 0, 0, 0))
        prices = ((1, 0, 0, 0), (0, 0, 0, 0))
        self.assertEqual(worth(profile, prices), -9)
        self.both(profile, EDGE, -9, prices, True, False)
        self.both(profile, EDGE, -10, prices, False, False)
        self.both(profile, EDGE, 0, prices, True, False)

    def test_changed_at_one_place(self):
        for profile in (OPEN, Profile(FORK, (1, 1, 1), (3, 2, 1)), BARRED):
            refused = 0
            for edge in profile.calls.edges:
                low, high, most, fewest = 1, 5, MOST, LEAST
                if profile != BARRED:
                    low, high = least(profile, edge), greatest(profile, edge)
                    most, fewest = at_most(profile, edge), at_least(profile, edge)
                for other in changed_once(most) + changed_once(fewest):
                    told = (show_at_most(profile, edge, high, other), show_at_least(profile, edge, low, other))
                    self.both(profile, edge, high, other, told[0], show_at_least(profile, edge, high, other))
                    self.both(profile, edge, low, other, show_at_most(profile, edge, low, other), told[1])
                    refused += not are_prices(profile, other)
                    refused += are_prices(profile, other) and not any(told)
            self.assertGreater(refused, 300)

    def test_chance_prices(self):
        sides = list(itertools.product((-1, 0, 1), repeat=3))
        profile = Profile(FORK, (1, 1, 2), (4, 2, 2))
        for up, down in itertools.product(sides, sides):
            for edge, many in itertools.product(FORK.edges, (-1, 0, 1, 2, 3)):
                value = (up, down)
                most = show_at_most(profile, edge, many, value)
                self.both(profile, edge, many, value, most, show_at_least(profile, edge, many, value))


if __name__ == "__main__":
    unittest.main()
