"""Points [13] and [14]: which marks are enough, rings, and runs that are alike in marks."""

import itertools
import unittest

from sureticks.calls import Calls
from sureticks.errors import InvalidMarks, TickError, Undefined
from sureticks.marking import alike, alike_holds, enough, least_marks, ring, ring_holds
from sureticks.profiles import profile_of
from sureticks.runs import is_run, passed
from tests.samples import (
    ALL_CALLS, CHAIN, Couple, DIAMOND, FORK, FULL, LONE, ONE, Step, is_plain, own_of_tree,
    passed_of_tree, whole_of_tree,
)
from tests.searches import (
    PAIRS, all_calls, all_rings, any_values, are_enough, are_marks, calls_with, changed_once,
    is_alike, is_ring, reached_edges, runs_by_sums, some_of,
)

# 0 and 1 both may pass to 2 and 3.
SQUARE = Calls(4, ((0, 1), (0, 2), (0, 3), (1, 2), (1, 3)))
RING = ((0, 2), (0, 3), (1, 3), (1, 2))
ALIKE = ((0, ((2, (1,)), (1, ((3, (1,)),)))), (0, ((3, (1,)), (1, ((2, (1,)),)))))
# 1 and 2 are like 0 and 1 in SQUARE, but nothing calls 1.
UNREACHED = Calls(5, ((0, 2), (0, 4), (1, 3), (1, 4), (2, 3), (2, 4)))
APART = Calls(5, ((0, 1), (2, 3), (2, 4)))
# Of this ring no four edges are one.
LONG = ((0, 2), (0, 4), (2, 4), (2, 3), (1, 3), (1, 2))
LONG_CALLS = Calls(5, ((0, 1), (0, 2), (0, 4), (1, 2), (1, 3), (2, 3), (2, 4)))
MARK_LOOKS = (enough, ring, alike)


class Marking(unittest.TestCase):
    def are_enough(self, calls, marks):
        self.assertIs(enough(calls, marks), True)
        for look, word in ((ring, "ring"), (alike, "alike")):
            with self.assertRaises(Undefined) as held:
                look(calls, marks)
            self.assertEqual(held.exception.what, word)
            self.assertIsInstance(held.exception, TickError)

    def are_short(self, calls, marks):
        self.assertIs(enough(calls, marks), False)
        edges, pair = ring(calls, marks), alike(calls, marks)
        self.assertTrue(is_plain((edges, pair)))
        self.assertTrue(is_ring(calls, marks, edges), (calls.edges, marks, edges))
        self.assertIs(ring_holds(calls, marks, edges), True)
        self.assertTrue(is_alike(calls, marks, pair), (calls.edges, marks, pair))
        self.assertIs(alike_holds(calls, marks, pair), True)

    def refuses(self, calls, marks):
        for look in MARK_LOOKS:
            with self.assertRaises(InvalidMarks) as held:
                look(calls, marks)
            self.assertIs(held.exception.value, marks)
            self.assertIsInstance(held.exception, TickError)
        self.assertIs(ring_holds(calls, marks, RING), False)
        self.assertIs(alike_holds(calls, marks, ALIKE), False)


class TestEnough(Marking):
    def test_worked_calls(self):
        self.are_short(SQUARE, ())
        self.are_short(SQUARE, ((0, 1),))
        for edge in RING:
            self.are_enough(SQUARE, (edge,))
            self.are_enough(SQUARE, ((0, 1), edge))

    def test_calls_without_rings(self):
        for calls in (ONE, LONE, CHAIN, FORK, DIAMOND, UNREACHED, APART):
            for marks in some_of(calls.edges):
                self.are_enough(calls, marks)
            self.assertEqual(least_marks(calls), ((),))

    def test_no_marks_and_all_marks(self):
        for calls in ALL_CALLS + (SQUARE, UNREACHED, APART, LONG_CALLS):
            self.are_enough(calls, calls.edges)
            if calls in (FULL, SQUARE, LONG_CALLS):
                self.are_short(calls, ())

    def test_all_but_a_ring(self):
        for edges in all_rings(FULL, ()):
            marks = tuple(edge for edge in PAIRS if edge not in edges)
            self.are_short(FULL, marks)
            for edge in edges:
                self.are_enough(FULL, tuple(sorted(marks + (edge,))))

    def test_a_ring_of_six(self):
        self.assertTrue(is_ring(LONG_CALLS, (), LONG))
        self.are_short(LONG_CALLS, ())
        self.assertEqual(len(ring(LONG_CALLS, ((0, 1),))), 6)
        for edge in LONG:
            self.are_enough(LONG_CALLS, (edge,))
        self.assertIs(ring_holds(LONG_CALLS, (), LONG), True)

    def test_rings_that_are_not_reached(self):
        # Between 1 and 2, 3 and 4 there is what would be a ring, but 1 is not reached.
        self.are_enough(UNREACHED, ())
        self.assertIs(ring_holds(UNREACHED, (), ((1, 3), (1, 4), (2, 4), (2, 3))), False)
        with_one = Calls(5, ((0, 1),) + UNREACHED.edges)
        self.are_short(with_one, ())
        self.assertIs(ring_holds(with_one, (), ((1, 3), (1, 4), (2, 4), (2, 3))), True)

    def test_a_search_through_all_runs(self):
        # A ring of four edges needs runs of two ticks, one of six needs three.
        rows = [(calls, 2) for calls in all_calls(4)] + [(UNREACHED, 3), (APART, 3), (LONG_CALLS, 3)]
        for calls, ticks in rows + [(calls_with(5, number), 3) for number in range(3, 1024, 97)]:
            sums = runs_by_sums(calls, ticks)
            for marks in some_of(calls.edges):
                if are_enough(calls, marks, sums):
                    self.are_enough(calls, marks)
                else:
                    self.are_short(calls, marks)

    def test_all_marks_of_all_edges(self):
        sums = runs_by_sums(FULL, 3)
        for marks in some_of(PAIRS)[::3]:
            self.assertIs(enough(FULL, marks), are_enough(FULL, marks, sums))

    def test_marks_along_which_no_run_passes(self):
        calls = Calls(5, ((0, 2), (1, 2), (1, 3), (3, 4)))
        for marks in some_of(calls.edges):
            self.are_enough(calls, marks)
        calls = Calls(5, SQUARE.edges[1:] + ((3, 4),))
        self.are_enough(calls, ((1, 2),))
        self.are_enough(calls, ())

    def test_what_are_no_marks(self):
        for marks in any_values():
            if repr(marks) != "()":
                self.refuses(SQUARE, marks)
            for other in ((marks,), (marks, (0, 1)), ((0, 1), marks), ((0, marks),), ((marks, 1),)):
                if repr(other) != "((0, 1),)":
                    self.refuses(SQUARE, other)
        for marks in (
            ((0, 2), (0, 1)), ((0, 1), (0, 1)), ((0, 1), (0, 2), (0, 2)), ((1, 2), (0, 1)), ((2, 3),), ((1, 0),),
            ((0, 4),), ((0, 0),), ((0, 1), (2, 3)), ((0, -1),), ((False, 1),), ((0, True),), ((0, 1, 2),), ((0,),),
            [(0, 1)], ([0, 1],), [], (0, 1), ((0, "1"),), "", SQUARE.edges + ((1, 3),), SQUARE.edges[::-1],
        ):
            self.refuses(SQUARE, marks)
        self.refuses(ONE, ((0, 1),))
        self.refuses(CHAIN, ((0, 2),))

    def test_equal_arguments_and_names(self):
        calls = Calls(4, tuple(tuple(list(edge)) for edge in SQUARE.edges))
        marks = (tuple([0, 1]),)
        for look in MARK_LOOKS:
            self.assertEqual(look(calls, marks), look(SQUARE, ((0, 1),)))
            self.assertEqual(look(marks=marks, calls=calls), look(SQUARE, ((0, 1),)))
        self.assertEqual(least_marks(calls=calls), least_marks(SQUARE))
        self.assertIs(ring_holds(value=RING, marks=(), calls=calls), True)
        self.assertIs(alike_holds(value=ALIKE, marks=(), calls=calls), True)
        self.assertEqual(calls, SQUARE)

    def test_tuples_and_integers_of_a_class_of_their_own(self):
        marks = (Couple(Step.NONE, Step.TWO),)
        self.assertIs(enough(SQUARE, marks), True)
        self.assertIs(ring_holds(SQUARE, marks, RING), False)
        self.assertIs(ring_holds(SQUARE, (), (Couple(Step.NONE, Step.TWO),) + RING[1:]), True)
        # (0, 2) is told twice.
        twice = (Couple(Step.NONE, Step.TWO), (0, 2), (1, 2), (1, 2))
        self.assertIs(ring_holds(SQUARE, (), twice), False)
        self.assertTrue(is_plain((ring(SQUARE, (Couple(0, 1),)), alike(SQUARE, (Couple(0, 1),)))))

    def test_defined_in_their_file(self):
        for thing in MARK_LOOKS + (ring_holds, alike_holds, least_marks):
            self.assertEqual(thing.__module__, "sureticks.marking")


class TestRingHolds(Marking):
    def no(self, calls, marks, value):
        self.assertIs(ring_holds(calls, marks, value), False)

    def test_turned_and_turned_round(self):
        for calls, edges in ((SQUARE, RING), (LONG_CALLS, LONG), (FULL, RING), (FULL, LONG)):
            for turn in range(len(edges)):
                turned = edges[turn:] + edges[:turn]
                # The first two must have the same first function, not the same second one.
                self.assertIs(ring_holds(calls, (), turned), turn % 2 == 0)
                self.assertIs(ring_holds(calls, (), turned[::-1]), turn % 2 == 0)

    def test_all_orders(self):
        for edges in itertools.chain(itertools.permutations(RING), itertools.permutations(LONG)):
            self.assertIs(ring_holds(FULL, (), edges), is_ring(FULL, (), edges))
        for edges in itertools.permutations(PAIRS, 4):
            self.assertIs(ring_holds(FULL, (), edges), is_ring(FULL, (), edges))

    def test_all_rings_are_taken_unless_marked(self):
        for edges in all_rings(FULL, ()):
            self.assertIs(ring_holds(FULL, (), edges), True)
            for edge in edges:
                self.no(FULL, (edge,), edges)
            others = tuple(edge for edge in PAIRS if edge not in edges)
            self.assertIs(ring_holds(FULL, others, edges), True)

    def test_no_rings(self):
        for value in (
            (), RING[:1], RING[:2], RING[:3], RING[:2] + RING[:2], RING + RING, RING + RING[:2], RING[:1] * 4,
            ((0, 2), (0, 2)), ((0, 2), (0, 2), (1, 2), (1, 2)), ((0, 2), (0, 3), (1, 3), (1, 2), (0, 1)),
            ((0, 1), (0, 2), (1, 2), (1, 3)), ((0, 2), (0, 3), (1, 3), (0, 2)), RING * 7000, ((0, 1),) * 29000,
        ):
            self.no(SQUARE, (), value)

    def test_edges_of_other_calls(self):
        for calls in (ONE, CHAIN, FORK, DIAMOND, UNREACHED):
            self.no(calls, (), RING)
        self.no(Calls(4, SQUARE.edges[1:]), (), RING)

    def test_any_value(self):
        for value in any_values() + [SQUARE, RING[0]]:
            self.no(SQUARE, (), value)
            self.no(SQUARE, (), (value,))
            self.no(SQUARE, (), RING[:3] + (value,))
            self.no(SQUARE, (), RING[:3] + ((1, value),))
            self.no(SQUARE, (), (value,) * 4)
            if repr(value) != "()":
                self.no(SQUARE, value, RING)
                self.no(SQUARE, value, value)

    def test_bools_and_lists(self):
        for value in (
            list(RING), RING[:3] + ([1, 2],), RING[:2] + ((True, 3), (1, 2)), ((False, 2),) + RING[1:],
            RING[:2] + ((True, 3), (True, 2)),
        ):
            self.no(SQUARE, (), value)

    def test_changed_at_one_place(self):
        refused = 0
        for calls, marks, edges in ((SQUARE, (), RING), (LONG_CALLS, (), LONG), (FULL, ((0, 1), (3, 4)), LONG)):
            for other in changed_once(edges) + [other for told in [ring(calls, marks)] for other in changed_once(told)]:
                self.assertIs(ring_holds(calls, marks, other), is_ring(calls, marks, other), other)
                refused += not is_ring(calls, marks, other)
            for other in changed_once(marks):
                expected = are_marks(calls, other) and is_ring(calls, other, edges)
                self.assertIs(ring_holds(calls, other, edges), expected, other)
        self.assertGreater(refused, 300)


class TestAlikeHolds(Marking):
    def no(self, calls, marks, value):
        self.assertIs(alike_holds(calls, marks, value), False)
        self.assertFalse(is_alike(calls, marks, value))

    def test_a_worked_pair(self):
        self.assertIs(alike_holds(SQUARE, (), ALIKE), True)
        self.assertIs(alike_holds(SQUARE, (), ALIKE[::-1]), True)
        self.assertIs(alike_holds(SQUARE, ((0, 1),), ALIKE), True)
        for edge in RING:
            self.no(SQUARE, (edge,), ALIKE)

    def test_the_same_in_every_edge(self):
        for run in ALIKE:
            self.no(SQUARE, (), (run, run))
        # The order of parts does not matter, nor how ticks are parted.
        self.no(SQUARE, (), ((0, ((1, ()), 1, 2)), (0, (3,))))

    def test_the_same_own_and_whole(self):
        one, other = ALIKE
        self.no(SQUARE, (), ((0, one[1] + (1,)), other))
        self.no(SQUARE, (), (one, (0, other[1] + ((2, (1,)),))))
        self.assertIs(alike_holds(SQUARE, (), ((0, one[1] + (1,)), (0, (1,) + other[1]))), True)
        # Own is the same, whole is not; and the other way round.
        self.no(FORK, (), ((0, ((1, ((2, (1,)),)),)), (0, ((2, (1,)),))))
        self.no(CHAIN, (), ((0, ((1, (1, (2, (1,)))),)), (0, ((1, (2, (2, ()))),))))

    def test_no_pairs(self):
        one, other = ALIKE
        for value in (
            (), (one,), (one, other, one), [one, other], (list(one), other), (one, list(other)), one, (0, one),
            ((1, one[1]), other), ((0, ((2, (True,)),) + one[1][1:]), other), ((False, one[1]), other), (one, None),
        ):
            self.no(SQUARE, (), value)
        for calls in (ONE, CHAIN, FORK, DIAMOND):
            self.no(calls, (), ALIKE)

    def test_the_bounds_of_runs(self):
        one, other = ALIKE
        for many, fine in ((395, True), (396, False)):
            self.assertIs(alike_holds(SQUARE, (), ((0, one[1] + (1,) * many), (0, other[1] + (many,)))), fine)
        for many, fine in ((999997, True), (999998, False)):
            self.assertIs(alike_holds(SQUARE, (), ((0, one[1] + (many,)), (0, other[1] + (many,)))), fine)

    def test_any_value(self):
        for value in any_values() + [SQUARE, profile_of(SQUARE, ALIKE[0])]:
            for other in (value, (value,), (value, value), (ALIKE[0], value), (value, ALIKE[1])):
                self.assertIs(alike_holds(SQUARE, (), other), False)
            if repr(value) != "()":
                self.assertIs(alike_holds(SQUARE, value, ALIKE), False)
                self.assertIs(alike_holds(SQUARE, value, value), False)

    def test_changed_at_one_place(self):
        refused = 0
        pairs = [(SQUARE, (), ALIKE), (LONG_CALLS, (), alike(LONG_CALLS, ()))]
        for calls, marks, pair in pairs + [(FULL, ((0, 2), (0, 3)), alike(FULL, ((0, 2), (0, 3))))]:
            self.assertTrue(is_alike(calls, marks, pair))
            for other in changed_once(pair):
                self.assertIs(alike_holds(calls, marks, other), is_alike(calls, marks, other), other)
                refused += not is_alike(calls, marks, other)
        self.assertGreater(refused, 300)

    def test_all_pairs_of_some_runs(self):
        runs = [(0, parts) for parts in itertools.product(
            ((2, (1,)), (3, (1,)), (1, ((2, (1,)),)), (1, ((3, (1,)),)), (1, (1,)), 1), repeat=2)]
        for one, other in itertools.product(runs, runs[::2]):
            self.assertTrue(is_run(SQUARE, one))
            for marks in ((), ((0, 1),), ((0, 2),), ((0, 1), (1, 3))):
                self.assertIs(alike_holds(SQUARE, marks, (one, other)), is_alike(SQUARE, marks, (one, other)))

    def test_what_is_told_is_unlike_in_a_ring_alone(self):
        for number in range(1023, 0, -37):
            calls = calls_with(5, number)
            for marks in least_marks(calls):
                for place in range(len(marks)):
                    few = marks[:place] + marks[place + 1:]
                    one, other = alike(calls, few)
                    self.assertEqual(own_of_tree(calls, one), own_of_tree(calls, other))
                    self.assertEqual(whole_of_tree(calls, one), whole_of_tree(calls, other))
                    self.assertNotEqual(passed_of_tree(calls, one), passed_of_tree(calls, other))
                    for edge, ticks, others in zip(calls.edges, passed(calls, one), passed(calls, other)):
                        self.assertTrue(edge not in few or ticks == others)


class TestLeastMarks(unittest.TestCase):
    def number_of_marks(self, calls):
        """How many marks all are, as point [14] says it."""
        edges = reached_edges(calls)
        parts = []
        for edge in edges:
            near = [part for part in parts if any(edge[0] == g or edge[1] == f for g, f in part)]
            parts = [part for part in parts if part not in near] + [sum(near, [edge])]
        return len(edges) - len({g for g, _ in edges}) - len({f for _, f in edges}) + len(parts)

    def test_worked_calls(self):
        self.assertEqual(least_marks(ONE), ((),))
        self.assertEqual(least_marks(LONE), ((),))
        self.assertEqual(least_marks(DIAMOND), ((),))
        self.assertEqual(least_marks(SQUARE), (((0, 2),), ((0, 3),), ((1, 2),), ((1, 3),)))
        self.assertEqual(least_marks(LONG_CALLS), tuple((edge,) for edge in sorted(LONG)))
        self.assertEqual(least_marks(UNREACHED), ((),))
        # With 1 reached, but without 2, there is no ring either.
        self.assertEqual(least_marks(Calls(5, ((0, 1),) + UNREACHED.edges[2:])), ((),))
        reached = Calls(5, ((0, 1),) + UNREACHED.edges)
        self.assertEqual(least_marks(reached), tuple((edge,) for edge in UNREACHED.edges[2:]))

    def test_a_search_through_all_marks(self):
        rows = [(calls, 2) for calls in all_calls(4)] + [(FULL, 3), (UNREACHED, 3), (LONG_CALLS, 3)]
        for calls, ticks in rows + [(calls_with(5, number), 3) for number in range(9, 1024, 83)]:
            sums = runs_by_sums(calls, ticks)
            found = {marks: are_enough(calls, marks, sums) for marks in some_of(calls.edges)}
            few = [
                marks for marks in found if found[marks]
                and not any(found[marks[:place] + marks[place + 1:]] for place in range(len(marks)))
            ]
            self.assertEqual(least_marks(calls), tuple(sorted(few)))
            self.assertTrue(is_plain(least_marks(calls)))
            # Marks are enough exactly if they have all of one of these.
            for marks in found:
                has_all = any(set(least) <= set(marks) for least in least_marks(calls))
                self.assertIs(has_all, enough(calls, marks))

    def test_all_have_the_same_number(self):
        for number in range(0, 1024, 5):
            calls = calls_with(5, number)
            told = least_marks(calls)
            self.assertEqual({len(marks) for marks in told}, {self.number_of_marks(calls)})
            self.assertEqual(told, tuple(sorted(set(told))))
            for marks in told:
                self.assertIs(enough(calls, marks), True)

    def test_all_edges(self):
        told = least_marks(FULL)
        self.assertEqual(len(told), 36)
        self.assertEqual({len(marks) for marks in told}, {3})
        self.assertTrue(is_plain(told))


if __name__ == "__main__":
    unittest.main()
