"""Point [6]: runs, and what stands in them, within them and passes along edges."""

import unittest

from sureticks.calls import Calls
from sureticks.errors import InvalidRun, TickError
from sureticks.runs import is_run, own, passed, run_of, trace_of, whole
from tests.samples import (
    ALL_CALLS, CHAIN, Couple, DIAMOND, FORK, FULL, LONE, ONE, Step, chained, chance_runs, is_plain,
    nested, odd_values, own_of_tree, passed_of_tree, small_runs, whole_of_tree,
)

SUMS = (own, whole, passed, trace_of)

# Two ways to the last function of DIAMOND, and a function that is called twice.
WORKED = (0, (5, (1, (2, (3, (7,)), 1)), (2, ((3, (10, 1)), (3, ()))), 4, (1, ())))


def wide(runs, ticks=()):
    """A run of FORK with so many runs in it, side by side, and these ticks behind."""
    return (0, ((1, ()),) * (runs - 1) + ticks)


class TestIsRun(unittest.TestCase):
    def yes(self, calls, value):
        self.assertIs(is_run(calls, value), True)

    def no(self, calls, value):
        self.assertIs(is_run(calls, value), False)
        for look in SUMS:
            with self.assertRaises(InvalidRun) as held:
                look(calls, value)
            self.assertIs(held.exception.value, value)
            self.assertIsInstance(held.exception, TickError)
            self.assertIsInstance(held.exception, ValueError)

    def test_ordinary_runs(self):
        self.yes(DIAMOND, WORKED)
        self.yes(CHAIN, (0, (1, (1, (2, (2, (3,)), 4)), 5)))
        self.yes(FORK, (0, ((2, (1,)), (1, ((2, ()),)), (2, (1,)))))
        self.yes(FULL, (0, ((1, ((2, ((3, ((4, (9,)),)),)),)),)))
        for calls, run in chance_runs():
            self.yes(calls, run)

    def test_a_run_with_no_parts(self):
        for calls in ALL_CALLS:
            self.yes(calls, (0, ()))
        self.no(ONE, ())

    def test_only_runs_of_function_0(self):
        for function in (1, 2, 3, 4, 5, -1, 10 ** 11):
            for parts in ((), (1,)):
                self.no(FULL, (function, parts))
        for function in (False, True, None, "0", (0,), [0], CHAIN):
            self.no(FULL, (function, ()))

    def test_any_value(self):
        for calls in ALL_CALLS:
            for value in odd_values():
                self.no(calls, value)

    def test_any_value_as_a_part(self):
        for value in odd_values():
            for calls in (ONE, FORK):
                self.no(calls, (0, (value,)))
                self.no(calls, (0, (1, value)))
                self.no(calls, (0, (value, 1)))
            self.no(FORK, (0, ((1, (value,)),)))
            self.no(FORK, (0, ((1, ((2, (value,)),)), 1)))
            self.no(FORK, (0, ((1, value),)))
            self.no(FORK, (0, ((value, ()),)))

    def test_pairs_only(self):
        for value in ((0, (1,), ()), (0,), ((1,), 0), (0, 1), [0, (1,)], (0, [1]), (0, ((1, ()), [1, ()]))):
            self.no(FORK, value)
        for part in ((1, [2]), [1, (2,)], (1,), (1, (), ()), (1, 2), ("1", ()), (1, "")):
            self.no(FORK, (0, (part,)))

    def test_ticks_from_1_to_999999(self):
        for ticks in (1, 2, 999998, 999999):
            self.yes(ONE, (0, (ticks,)))
            self.yes(CHAIN, (0, ((1, (ticks,)),)))
        for ticks in (0, -1, -999999, 1000000, 999999999999, True, False, None, "1", 1.0):
            self.no(ONE, (0, (ticks,)))
            self.no(CHAIN, (0, ((1, (ticks,)),)))
            self.no(CHAIN, (0, (5, (1, (5, ticks)))))

    def test_ticks_in_all(self):
        self.yes(ONE, (0, (999998, 1)))
        self.no(ONE, (0, (999998, 2)))
        self.no(ONE, (0, (999999, 1)))
        self.yes(CHAIN, (0, (499999, (1, (400000, (2, (100000,)))))))
        self.no(CHAIN, (0, (500000, (1, (400000, (2, (100000,)))))))
        self.no(CHAIN, (0, (499999, (1, (400001, (2, (100000,)))))))
        self.no(CHAIN, (0, (499999, (1, (400000, (2, (100001,)))))))
        self.yes(CHAIN, (0, ((1, (333333,)),) * 3))
        self.no(CHAIN, (0, ((1, (333334,)),) * 3))

    def test_functions_that_may_not_be_called(self):
        self.no(ONE, (0, ((0, ()),)))
        self.no(LONE, (0, ((1, ()),)))
        for callee in (0, 2, 3, -1):
            self.no(CHAIN, (0, ((callee, ()),)))
        for callee in (0, 1, 3, -1):
            self.no(CHAIN, (0, ((1, ((callee, ()),)),)))
        for callee in (0, 1, 2, 3):
            self.no(CHAIN, (0, ((1, ((2, ((callee, ()),)),)),)))
        self.no(DIAMOND, (0, ((3, ()),)))
        self.no(DIAMOND, (0, ((1, ((2, ()),)),)))
        self.yes(DIAMOND, (0, ((2, ((3, ()),)),)))

    def test_bools_for_functions(self):
        self.yes(FORK, (0, ((1, ()),)))
        self.no(FORK, (0, ((True, ()),)))
        self.no(FORK, (False, ((1, ()),)))
        self.no(FORK, (0, ((1, (1, True)),)))

    def test_200_runs(self):
        self.yes(FORK, wide(199))
        self.yes(FORK, wide(200))
        self.no(FORK, wide(201))
        self.no(FORK, wide(202))
        self.no(FORK, wide(400))

    def test_200_runs_within_one_another(self):
        # Of these runs 1 + 99 * 2 + 1 are 200.
        inner = ((1, ((2, ()),)),) * 99
        self.yes(FORK, (0, inner + ((2, ()),)))
        self.no(FORK, (0, inner + ((2, ()), (2, ()))))
        self.no(FORK, (0, inner + ((1, ((2, ()),)),)))

    def test_400_parts(self):
        self.yes(ONE, (0, (1,) * 399))
        self.yes(ONE, (0, (1,) * 400))
        self.no(ONE, (0, (1,) * 401))
        self.no(ONE, (0, (1,) * 402))
        self.no(ONE, (0, (1,) * 29997))

    def test_400_parts_within_one_another(self):
        # The run that is a part counts as one, and each of its own parts.
        self.yes(CHAIN, (0, (1,) * 100 + ((1, (1,) * 299),)))
        self.no(CHAIN, (0, (1,) * 100 + ((1, (1,) * 300),)))
        self.no(CHAIN, (0, (1,) * 101 + ((1, (1,) * 299),)))
        self.yes(CHAIN, (0, ((1, (1, 1, (2, (1,) * 396))),)))
        self.no(CHAIN, (0, ((1, (1, 1, (2, (1,) * 397))),)))

    def test_all_bounds_at_once(self):
        self.yes(FORK, wide(200, (1,) * 200 + (999799,)))
        self.no(FORK, wide(200, (1,) * 201 + (999798,)))
        self.no(FORK, wide(200, (1,) * 200 + (999800,)))
        self.no(FORK, wide(201, (1,) * 200))

    def test_many_members(self):
        self.no(FORK, wide(10000))
        self.no(FORK, wide(7000, (1,) * 9000))
        self.no(FORK, (0, ((1, (1,) * 5000),) * 5))

    def test_deep_values(self):
        for depth in range(1, 29):
            for function in range(3):
                self.no(FORK, chained(depth, function))
        for depth in range(60):
            self.no(FULL, nested(depth))
            self.no(FULL, (0, nested(min(depth + 1, 58))))

    def test_runs_that_are_changed_at_one_place(self):
        for calls, run in chance_runs(6):
            for at in range(len(run[1])):
                left, right = run[1][:at], run[1][at + 1:]
                self.yes(calls, (0, left + right))
                for part in (0, None, True, (0, ()), (5, ()), [1], 10 ** 6, CHAIN, (), "out"):
                    self.no(calls, (0, left + (part,) + right))
            self.yes(calls, (0, run[1] + run[1]))


class TestSums(unittest.TestCase):
    def test_a_worked_run(self):
        self.assertEqual(own(DIAMOND, WORKED), (9, 3, 0, 18))
        self.assertEqual(whole(DIAMOND, WORKED), (30, 10, 11, 18))
        self.assertEqual(passed(DIAMOND, WORKED), (10, 11, 7, 11))

    def test_no_parts(self):
        for calls in ALL_CALLS:
            self.assertEqual(own(calls, (0, ())), (0,) * calls.functions)
            self.assertEqual(whole(calls, (0, ())), (0,) * calls.functions)
            self.assertEqual(passed(calls, (0, ())), (0,) * len(calls.edges))

    def test_no_edges(self):
        self.assertEqual(own(LONE, (0, (3, 4))), (7, 0, 0))
        self.assertEqual(whole(LONE, (0, (3, 4))), (7, 0, 0))
        self.assertEqual(passed(LONE, (0, (3, 4))), ())

    def test_ticks_that_stand_deeper_pass_along_each_edge_above(self):
        run = (0, ((1, ((2, ((3, ((4, (9,)),)),)),)),))
        self.assertEqual(own(FULL, run), (0, 0, 0, 0, 9))
        self.assertEqual(whole(FULL, run), (9, 9, 9, 9, 9))
        self.assertEqual(passed(FULL, run), tuple(9 if f == g + 1 else 0 for g, f in FULL.edges))

    def test_as_told_from_the_tree(self):
        for calls, run in chance_runs(60):
            self.assertEqual(own(calls, run), own_of_tree(calls, run))
            self.assertEqual(whole(calls, run), whole_of_tree(calls, run))
            self.assertEqual(passed(calls, run), passed_of_tree(calls, run))

    def test_as_told_from_the_tree_of_all_small_runs(self):
        for calls in (CHAIN, FORK, DIAMOND):
            for run in small_runs(calls, 0, 8, (1, 5)):
                self.assertIs(is_run(calls, run), True)
                self.assertEqual(own(calls, run), own_of_tree(calls, run))
                self.assertEqual(whole(calls, run), whole_of_tree(calls, run))
                self.assertEqual(passed(calls, run), passed_of_tree(calls, run))

    def test_whole_is_own_and_what_passes(self):
        for calls, run in chance_runs():
            along = dict(zip(calls.edges, passed(calls, run)))
            for function in range(calls.functions):
                going = sum(ticks for (g, _), ticks in along.items() if g == function)
                coming = sum(ticks for (_, f), ticks in along.items() if f == function)
                self.assertEqual(whole(calls, run)[function], own(calls, run)[function] + going)
                if function:
                    self.assertEqual(whole(calls, run)[function], coming)

    def test_the_greatest_sums(self):
        self.assertEqual(own(ONE, (0, (999999,))), (999999,))
        run = (0, ((1, ((2, (999999,)),)),))
        self.assertEqual(whole(CHAIN, run), (999999,) * 3)
        self.assertEqual(passed(CHAIN, run), (999999,) * 2)
        run = wide(200, (1,) * 200 + (999799,))
        self.assertEqual(own(FORK, run), (999999, 0, 0))
        self.assertEqual(passed(FORK, run), (0, 0, 0))

    def test_plain_tuples(self):
        run = Couple(Step.NONE, (Step.TWO, Couple(Step.ONE, Couple(Step.ONE, 2))))
        plain = (0, (2, (1, (1, 2))))
        self.assertIs(is_run(FORK, run), True)
        for look in SUMS:
            self.assertEqual(look(FORK, run), look(FORK, plain))
            self.assertTrue(is_plain(look(FORK, run)))
        self.assertTrue(is_plain(run_of(FORK, trace_of(FORK, run))))
        for calls, made in chance_runs(5):
            for look in SUMS:
                self.assertTrue(is_plain(look(calls, made)))

    def test_arguments_by_name(self):
        run = (0, (5, (1, (2,))))
        self.assertIs(is_run(calls=CHAIN, value=run), True)
        self.assertIs(is_run(value=5, calls=CHAIN), False)
        self.assertEqual(own(calls=CHAIN, run=run), (5, 2, 0))
        self.assertEqual(whole(run=run, calls=CHAIN), (7, 2, 0))
        self.assertEqual(passed(CHAIN, run=run), (2, 0))

    def test_equal_arguments_give_equal_results(self):
        for calls, run in chance_runs(5):
            again = Calls(calls.functions, calls.edges)
            for look in SUMS:
                self.assertEqual(look(calls, run), look(again, (run[0], tuple(list(run[1])))))

    def test_nothing_is_changed(self):
        value = (0, [1, [2, (3,)]])
        self.assertIs(is_run(FORK, value), False)
        self.assertEqual(value, (0, [1, [2, (3,)]]))
        edges = FORK.edges
        own(FORK, wide(3)), whole(FORK, wide(3)), passed(FORK, wide(3))
        self.assertEqual((FORK.functions, FORK.edges), (3, edges))


if __name__ == "__main__":
    unittest.main()
