"""Point [7], and promise (1): each run has one trace, and each trace one run."""

import itertools
import unittest

from sureticks.errors import InvalidTrace, TickError
from sureticks.runs import is_run, own, passed, run_of, trace_of, whole
from tests.samples import (
    ALL_CALLS, CHAIN, Couple, DIAMOND, FORK, FULL, LONE, ONE, Step, chance_runs, is_plain, odd_values,
    small_runs, trace_of_tree,
)

EMPTY = (("in", 0), ("out", 0))


def sums_of_events(calls, trace):
    """own, whole and passed, told from the events alone."""
    under_way = []
    spent = [0] * calls.functions
    within = [0] * calls.functions
    along = {edge: 0 for edge in calls.edges}
    for event in trace:
        if isinstance(event, int):
            spent[under_way[-1]] += event
            for f in under_way:
                within[f] += event
            for g, f in zip(under_way, under_way[1:]):
                along[g, f] += event
        elif event[0] == "in":
            under_way.append(event[1])
        else:
            under_way.remove(event[1])
    return tuple(spent), tuple(within), tuple(along[edge] for edge in calls.edges)


class TestTraces(unittest.TestCase):
    def refused(self, calls, trace):
        with self.assertRaises(InvalidTrace) as held:
            run_of(calls, trace)
        self.assertIs(held.exception.value, trace)
        self.assertIsInstance(held.exception, TickError)
        self.assertIsInstance(held.exception, ValueError)

    def test_a_worked_trace(self):
        run = (0, (5, (1, (2, (2, ()), 1)), (1, ()), 4))
        trace = (
            ("in", 0), 5, ("in", 1), 2, ("in", 2), ("out", 2), 1, ("out", 1), ("in", 1), ("out", 1), 4,
            ("out", 0),
        )
        self.assertEqual(trace_of(CHAIN, run), trace)
        self.assertEqual(run_of(CHAIN, trace), run)

    def test_no_parts(self):
        for calls in ALL_CALLS:
            self.assertEqual(trace_of(calls, (0, ())), EMPTY)
            self.assertEqual(run_of(calls, EMPTY), (0, ()))

    def test_there_and_back(self):
        for calls, run in chance_runs(60):
            trace = trace_of(calls, run)
            self.assertEqual(trace, trace_of_tree(run))
            self.assertEqual(run_of(calls, trace), run)
            self.assertEqual(trace_of(calls, run_of(calls, trace)), trace)
            self.assertTrue(is_plain((trace, run_of(calls, trace))))

    def test_the_sums_are_those_of_the_events(self):
        for calls, run in chance_runs():
            told = (own(calls, run), whole(calls, run), passed(calls, run))
            self.assertEqual(told, sums_of_events(calls, trace_of(calls, run)))

    def test_every_short_row_of_events(self):
        events = [1] + [(word, f) for word in ("in", "out") for f in range(3)]
        for calls in (LONE, CHAIN, FORK):
            runs = {trace_of_tree(run): run for run in small_runs(calls, 0, 6)}
            for many in range(6):
                for trace in itertools.product(events, repeat=many):
                    if trace in runs:
                        self.assertEqual(run_of(calls, trace), runs[trace])
                    else:
                        self.refused(calls, trace)

    def test_each_trace_has_one_run(self):
        for calls in (CHAIN, FORK, DIAMOND):
            runs = small_runs(calls, 0, 9, (1, 2))
            self.assertEqual(len(set(runs)), len(runs))
            self.assertEqual(len({trace_of(calls, run) for run in runs}), len(runs))
            for run in runs:
                self.assertEqual(run_of(calls, trace_of(calls, run)), run)

    def test_an_event_left_out(self):
        for calls, run in chance_runs(12):
            trace = trace_of(calls, run)
            for at, event in enumerate(trace):
                left = trace[:at] + trace[at + 1:]
                if isinstance(event, int):
                    self.assertEqual(trace_of(calls, run_of(calls, left)), left)
                else:
                    self.refused(calls, left)
            for end in range(len(trace)):
                self.refused(calls, trace[:end])
                self.refused(calls, trace[end + 1:])

    def test_an_event_put_to(self):
        for calls, run in chance_runs(6):
            trace = trace_of(calls, run)
            for at in range(len(trace) + 1):
                for word, f in itertools.product(("in", "out"), range(calls.functions)):
                    self.refused(calls, trace[:at] + ((word, f),) + trace[at:])
                inside = 0 < at < len(trace)
                longer = trace[:at] + (3,) + trace[at:]
                if inside:
                    self.assertEqual(trace_of(calls, run_of(calls, longer)), longer)
                else:
                    self.refused(calls, longer)

    def test_events_out_of_order(self):
        for run in ((0, (5, (1, ((2, ()),)))), (0, ((1, (5,)), (2, ()))), (0, (5, (1, (6,)), 5))):
            trace = trace_of(FORK, run)
            runs = {trace_of_tree(other): other for other in small_runs(FORK, 0, len(trace), (5, 6))}
            for row in sorted(set(itertools.permutations(trace)), key=str):
                if row in runs:
                    self.assertEqual(run_of(FORK, row), runs[row])
                else:
                    self.refused(FORK, row)

    def test_nothing_stands_outside_of_the_run(self):
        for trace in (
            (), (5,), (("in", 0),), (("out", 0),), (("out", 0), ("in", 0)), EMPTY + EMPTY, EMPTY + (5,),
            (5,) + EMPTY, EMPTY + (("in", 1), ("out", 1)), (("in", 1), ("out", 1)), (("in", 0), ("in", 0)),
            (("in", 0), ("out", 0), ("out", 0)), (("in", 0), ("in", 0), ("out", 0), ("out", 0)),
            (("in", 0), ("out", 0), 3, ("in", 0), ("out", 0)), (("in", 0), ("out", 1)),
            (("in", 0), ("in", 1), ("out", 0)), (("in", 0), ("in", 1), ("out", 0), ("out", 1)),
            (("in", 0), ("out", 0), ("in", 1), ("out", 1), ("out", 0)), (("in", 1), ("out", 0)),
        ):
            for calls in (ONE, FORK, FULL):
                self.refused(calls, trace)

    def test_functions_that_may_not_be_called(self):
        self.refused(DIAMOND, (("in", 0), ("in", 3), ("out", 3), ("out", 0)))
        self.refused(DIAMOND, (("in", 0), ("in", 1), ("in", 2), ("out", 2), ("out", 1), ("out", 0)))
        self.refused(LONE, (("in", 0), ("in", 1), ("out", 1), ("out", 0)))
        for f in (3, 5, -1, 10 ** 11):
            self.refused(FORK, (("in", 0), ("in", f), ("out", f), ("out", 0)))

    def test_any_value(self):
        for calls in ALL_CALLS:
            for value in odd_values():
                self.refused(calls, value)

    def test_any_value_as_an_event(self):
        for value in odd_values():
            if value not in EMPTY:
                self.refused(FORK, (("in", 0), value, ("out", 0)))
            for row in ((value, ("out", 0)), (("in", 0), value), EMPTY + (value,), (value,) + EMPTY):
                if row != EMPTY:
                    self.refused(FORK, row)
            self.refused(FORK, (("in", 0), ("in", value), ("out", value), ("out", 0)))
            if value not in ("in", "out"):
                self.refused(FORK, ((value, 0), ("out", 0)))
                self.refused(FORK, (("in", 0), (value, 0)))

    def test_wrong_events(self):
        for event in (
            ("in", True), ("out", True), ["in", 1], ("in",), ("in", 1, 1), ("In", 1), ("", 1), (1, "in"),
            ("in", "1"), ("in", None), "in", None, True, False, 0, -1, 1000000, 1.0, ("inn", 1), (0, 1), (),
        ):
            self.refused(FORK, (("in", 0), event, ("out", 0)))
            self.refused(FORK, (("in", 0), event, ("out", 1), ("out", 0)))
            self.refused(FORK, (("in", 0), ("in", 1), event, ("out", 0)))

    def test_bools_for_functions_and_ticks(self):
        self.assertEqual(run_of(FORK, (("in", 0), ("in", 1), 1, ("out", 1), ("out", 0))), (0, ((1, (1,)),)))
        self.refused(FORK, (("in", False), ("out", 0)))
        self.refused(FORK, (("in", 0), ("out", False)))
        self.refused(FORK, (("in", 0), ("in", True), 1, ("out", 1), ("out", 0)))
        self.refused(FORK, (("in", 0), ("in", 1), 1, ("out", True), ("out", 0)))
        self.refused(FORK, (("in", 0), ("in", 1), True, ("out", 1), ("out", 0)))

    def test_lists_for_tuples(self):
        self.refused(FORK, list(EMPTY))
        self.refused(FORK, (["in", 0], ("out", 0)))
        self.refused(FORK, (("in", 0), ["out", 0]))
        self.refused(FORK, (("in", 0), ("in", 1), ["out", 1], ("out", 0)))

    def test_the_bounds_of_ticks(self):
        self.assertEqual(run_of(ONE, (("in", 0), 1, ("out", 0))), (0, (1,)))
        self.assertEqual(run_of(ONE, (("in", 0), 999999, ("out", 0))), (0, (999999,)))
        self.assertEqual(run_of(ONE, (("in", 0), 999998, 1, ("out", 0))), (0, (999998, 1)))
        self.refused(ONE, (("in", 0), 1000000, ("out", 0)))
        self.refused(ONE, (("in", 0), 999999, 1, ("out", 0)))
        self.refused(CHAIN, (("in", 0), 999998, ("in", 1), 2, ("out", 1), ("out", 0)))

    def test_the_bound_of_runs(self):
        called = (("in", 1), ("out", 1))
        for runs in (199, 200):
            trace = EMPTY[:1] + called * (runs - 1) + EMPTY[1:]
            self.assertEqual(run_of(CHAIN, trace), (0, ((1, ()),) * (runs - 1)))
        for runs in (201, 202, 300, 401, 402, 5000):
            self.refused(CHAIN, EMPTY[:1] + called * (runs - 1) + EMPTY[1:])

    def test_the_bound_of_parts(self):
        called = (("in", 1), ("out", 1))
        for parts in (399, 400):
            self.assertEqual(run_of(ONE, EMPTY[:1] + (1,) * parts + EMPTY[1:]), (0, (1,) * parts))
        for parts in (401, 402, 600, 601, 602, 9000):
            self.refused(ONE, EMPTY[:1] + (1,) * parts + EMPTY[1:])
        full = EMPTY[:1] + called * 199 + (1,) * 201 + EMPTY[1:]
        self.assertEqual(run_of(CHAIN, full), (0, ((1, ()),) * 199 + (1,) * 201))
        self.refused(CHAIN, EMPTY[:1] + called * 199 + (1,) * 202 + EMPTY[1:])
        self.refused(CHAIN, EMPTY[:1] + called * 200 + (1,) * 200 + EMPTY[1:])

    def test_the_largest_trace_there_and_back(self):
        run = (0, ((1, ()),) * 199 + (1,) * 200 + (999799,))
        trace = trace_of(CHAIN, run)
        self.assertEqual(len(trace), 601)
        self.assertEqual(run_of(CHAIN, trace), run)
        self.refused(CHAIN, trace + trace)
        self.refused(CHAIN, trace[:1] + trace[1:-1] * 2 + trace[-1:])
        self.assertIs(is_run(CHAIN, trace), False)

    def test_many_runs_under_way(self):
        self.refused(FULL, (("in", 0),) * 5000 + (("out", 0),) * 5000)
        rising = tuple(("in", f) for f in range(5))
        falling = tuple(("out", f) for f in range(4, -1, -1))
        self.assertEqual(run_of(FULL, rising + falling), (0, ((1, ((2, ((3, ((4, ()),)),)),)),)))
        self.refused(FULL, rising + rising[::-1])
        self.refused(FULL, rising * 2 + falling * 2)

    def test_plain_tuples(self):
        trace = Couple(("in", Step.NONE), Couple("out", Step.NONE))
        self.assertEqual(run_of(FORK, trace), (0, ()))
        self.assertTrue(is_plain(run_of(FORK, trace)))
        trace = (("in", 0), Couple("in", Step.ONE), Step.TWO, ("out", 1), ("out", 0))
        self.assertEqual(run_of(FORK, trace), (0, ((1, (2,)),)))
        self.assertTrue(is_plain(run_of(FORK, trace)))

    def test_arguments_by_name(self):
        self.assertEqual(trace_of(calls=ONE, run=(0, ())), EMPTY)
        self.assertEqual(trace_of(run=(0, ()), calls=ONE), EMPTY)
        self.assertEqual(run_of(calls=ONE, trace=EMPTY), (0, ()))
        self.assertEqual(run_of(trace=EMPTY, calls=ONE), (0, ()))

    def test_a_refused_list_is_not_changed(self):
        trace = [("in", 0), 5, ["out", 0]]
        self.refused(ONE, trace)
        self.assertEqual(trace, [("in", 0), 5, ["out", 0]])


if __name__ == "__main__":
    unittest.main()
