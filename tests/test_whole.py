"""Points [1] to [4] and the promises of the overview, over the whole program."""

import importlib
import inspect
import itertools
import unittest

from sureticks.calls import Calls
from sureticks.claims import answer_of, is_claim, is_question, question_of
from sureticks.desk import Desk
from sureticks.ends import greatest, least, run_with, sure, unlike
from sureticks.errors import TickError
from sureticks.fitting import bar, bar_holds, some_run
from sureticks.marking import alike, alike_holds, enough, least_marks, ring, ring_holds
from sureticks.papers import claim_holds, paper_of
from sureticks.pricing import at_least, at_least_holds, at_most, at_most_holds
from sureticks.profiles import Profile, fits, profile_of
from sureticks.runs import is_run, own, passed, run_of, trace_of, whole
from sureticks.waiting import Work, ending, heights, heights_hold, longest, shortened
from tests.reckoning import all_questions, claims_for, is_paper, true_claim
from tests.samples import FORK, FULL, ONE, chance_runs, chained, is_plain, nested, small_runs
from tests.searches import DESK, WORK, all_bar_values, all_profiles, anew, any_values

# 0 and 1 both may pass to 2 and 3.
SQUARE = Calls(4, ((0, 1), (0, 2), (0, 3), (1, 2), (1, 3)))
OPEN = Profile(SQUARE, (1, 2, 5, 4), (12, 6, 5, 4))
BARRED = Profile(SQUARE, (1, 2, 5, 4), (12, 6, 5, 5))
OBJECTS = (SQUARE, OPEN, WORK, DESK)

INTERFACE = {
    "runs": (
        "is_run(calls, value)", "own(calls, run)", "whole(calls, run)", "passed(calls, run)", "trace_of(calls, run)",
        "run_of(calls, trace)",
    ),
    "profiles": ("fits(profile, run)", "profile_of(calls, run)"),
    "fitting": ("some_run(profile)", "bar(profile)", "bar_holds(profile, value)"),
    "ends": (
        "least(profile, edge)", "greatest(profile, edge)", "run_with(profile, edge, many)", "is_sure(profile, edge)",
        "sure(profile)", "unlike(profile, edge)",
    ),
    "pricing": (
        "at_most(profile, edge)", "at_least(profile, edge)", "at_most_holds(profile, edge, many, value)",
        "at_least_holds(profile, edge, many, value)",
    ),
    "marking": (
        "enough(calls, marks)", "ring(calls, marks)", "alike(calls, marks)", "ring_holds(calls, marks, value)",
        "alike_holds(calls, marks, value)", "least_marks(calls)",
    ),
    "waiting": (
        "ending(work)", "longest(work)", "heights(work)", "heights_hold(work, many, value)",
        "shortened(work, piece, many)", "gain(work, piece, many)", "slack(work, piece)",
    ),
    "claims": (
        "is_question(profile, value)", "is_claim(profile, value)", "answer_of(profile, question)",
        "question_of(profile, claim)",
    ),
    "papers": ("paper_of(profile, question)", "claim_holds(profile, claim, paper)"),
    "desk": ("same_state(one, other)",),
}
CLASSES = {
    "calls": ("Calls(functions, edges)", "__eq__"),
    "profiles": ("Profile(calls, own, whole)", "__eq__"),
    "waiting": ("Work(lengths, waits)", "__eq__"),
    "desk": (
        "Desk(profile)", "spend(function, many)", "take(function, many)", "record(run)", "link(edge)", "cut(edge)",
        "watch(question)", "leave(question)", "undo()", "redo()", "claim(question)", "paper(question)", "report()",
    ),
}


def module_of(name):
    return importlib.import_module("sureticks." + name)


class TestInterface(unittest.TestCase):
    def takes(self, thing, text, skipped):
        name, _, rest = text.partition("(")
        told = list(inspect.signature(thing).parameters)[skipped:]
        self.assertEqual(told, [word for word in rest.rstrip(")").split(", ") if word], name)

    def test_functions(self):
        for name, texts in INTERFACE.items():
            for text in texts:
                thing = vars(module_of(name))[text.partition("(")[0]]
                self.assertTrue(inspect.isfunction(thing))
                self.assertEqual(thing.__module__, "sureticks." + name)
                self.takes(thing, text, 0)

    def test_classes(self):
        for name, (made, *methods) in CLASSES.items():
            thing = vars(module_of(name))[made.partition("(")[0]]
            self.assertTrue(inspect.isclass(thing))
            self.assertEqual(thing.__module__, "sureticks." + name)
            self.takes(thing, made, 0)
            for text in methods:
                method = vars(thing)[text.partition("(")[0]]
                if text != "__eq__":
                    self.takes(method, text, 1)

    def test_attributes_are_set_when_objects_are_created(self):
        for thing, names in (
            (SQUARE, ("functions", "edges")), (OPEN, ("calls", "own", "whole")), (WORK, ("lengths", "waits")),
            (Desk(OPEN), ("profile", "watched", "many")),
        ):
            self.assertLessEqual(set(names), set(vars(thing)))

    def test_objects_are_equal_to_their_kind_alone_and_not_iterable(self):
        for one, other in itertools.product(OBJECTS, repeat=2):
            self.assertIs(one == other, one is other)
            self.assertIs(one != other, one is not other)
        for thing in OBJECTS:
            for look in (iter, list, tuple, len):
                with self.assertRaises(TypeError):
                    look(thing)
            with self.assertRaises(TypeError):
                0 in thing


class TestBasics(unittest.TestCase):
    def lookers(self):
        """All functions that tell of any value, each as a function of this value alone."""
        edge, prices = (0, 2), at_most(OPEN, (0, 2))
        claims = [answer_of(OPEN, question) for question in all_questions(SQUARE, [(), ((0, 2),)])]
        papers = [paper_of(OPEN, question) for question in all_questions(SQUARE, [(), ((0, 2),)])]
        found = [
            lambda value: is_run(SQUARE, value), lambda value: fits(OPEN, value),
            lambda value: bar_holds(BARRED, value),
            lambda value: at_most_holds(OPEN, edge, 5, value), lambda value: at_most_holds(OPEN, value, 5, prices),
            lambda value: at_least_holds(OPEN, edge, 0, value), lambda value: ring_holds(SQUARE, (), value),
            lambda value: alike_holds(SQUARE, (), value), lambda value: is_question(OPEN, value),
            lambda value: is_claim(OPEN, value), lambda value: heights_hold(WORK, 3, value),
            lambda value: heights_hold(WORK, value, (1, 2)), lambda value: claim_holds(BARRED, ("bars",), value),
        ]
        found.extend(lambda value, claim=claim: claim_holds(OPEN, claim, value) for claim in claims)
        found.extend(lambda value, paper=paper: claim_holds(OPEN, value, paper) for paper in papers)
        return found

    def test_values_as_large_and_as_deep_as_may_be(self):
        values = [
            (0,) * 29999, [0] * 29999, ((0, 1),) * 9999, ((),) * 29999, ("in", (1,) * 29990), (0, (1,) * 29990),
            (0, ((1, ()),) * 7000), nested(59), nested(58, (1,) * 20000), chained(28), chained(29, 1), "x" * 4000,
            10 ** 12 - 1, 1 - 10 ** 12, (10 ** 12 - 1,) * 4, ("fits",) * 29999, ("enough", ((0, 1),) * 9000),
            ((0,) * 4, (0,) * 29000), ("much", tuple(range(29000))), ("short", nested(57)), (nested(58),) * 4,
        ]
        for look in self.lookers():
            for value in values:
                self.assertIs(look(value), False)

    def test_what_is_returned_lengthened_and_cut_off(self):
        returned = [
            some_run(OPEN), bar(BARRED), run_with(OPEN, (0, 2), 3), unlike(OPEN, (0, 2)), sure(OPEN), ring(SQUARE, ()),
            alike(SQUARE, ()), least_marks(SQUARE), least_marks(FULL), at_most(OPEN, (0, 2)), at_least(OPEN, (0, 2)),
            trace_of(FULL, small_runs(FULL, 0, 8)[-1]), (0, (1,) * 400), (0, ((1, ()),) * 199), heights(WORK),
            longest(WORK),
        ]
        returned.extend(paper_of(OPEN, question) for question in all_questions(SQUARE, [()]))
        for look in self.lookers():
            for value in returned:
                for other in (value, value[:-1], value[1:], value + value, value + value[:1], (value, value), (value,)):
                    self.assertIn(look(other), (True, False))
        twice = (0, (1,) * 800)
        self.assertIs(is_run(ONE, twice), False)
        self.assertIs(is_run(ONE, (0, (0, twice[1]))), False)

    def test_what_is_returned_is_plain(self):
        for profile in (OPEN, anew(OPEN)):
            self.assertTrue(is_plain((
                some_run(profile), sure(profile), unlike(profile, (0, 2)), at_most(profile, (0, 2)),
                at_least(profile, (0, 2)), least(profile, (0, 2)), greatest(profile, (0, 2)), ring(SQUARE, ()),
                alike(SQUARE, ()),
                least_marks(SQUARE), longest(WORK), heights(WORK), ending(WORK), bar(BARRED),
            )))

    def test_calls_that_are_made_anew_and_by_turns(self):
        for calls, run in chance_runs(2):
            told = []
            for profile in (profile_of(calls, run), anew(profile_of(calls, run))):
                rows = [own(profile.calls, run), whole(profile.calls, run), passed(profile.calls, run)]
                for question in all_questions(profile.calls, [(), profile.calls.edges]):
                    self.assertEqual(answer_of(BARRED, ("fits",)), ("bars",))
                    rows.append((answer_of(profile, question), paper_of(profile, question)))
                    self.assertEqual(paper_of(BARRED, ("fits",)), bar(BARRED))
                told.append(rows)
            self.assertEqual(told[0], told[1])

    def test_arguments_do_not_change(self):
        for value in ([0, [1, (2, [])]], [["fits"]], [(0, 1)]):
            text = repr(value)
            for look in self.lookers():
                look(value)
            for call in (
                lambda: Calls(2, value), lambda: Calls(value, ()), lambda: Profile(ONE, value, (0,)),
                lambda: Work(value, ()),
                lambda: Work((1,), value), lambda: own(SQUARE, value), lambda: run_of(SQUARE, value),
                lambda: least(OPEN, value), lambda: run_with(OPEN, (0, 2), value), lambda: enough(SQUARE, value),
                lambda: shortened(WORK, 0, value), lambda: answer_of(OPEN, value), lambda: question_of(OPEN, value),
                lambda: paper_of(OPEN, value), lambda: Desk(OPEN).spend(value, 1), lambda: Desk(OPEN).link(value),
                lambda: Desk(OPEN).record(value), lambda: Desk(OPEN).watch(value),
            ):
                with self.assertRaises(TickError) as held:
                    call()
                self.assertIs(held.exception.value, value)
            self.assertEqual(repr(value), text)

    def test_values_of_all_kinds_raise_nothing(self):
        for value in any_values():
            for look in self.lookers():
                self.assertIn(look(value), (True, False))


class TestPromises(unittest.TestCase):
    def test_each_run_has_one_trace_and_each_trace_one_run(self):
        runs = small_runs(SQUARE, 0, 9)
        traces = {trace_of(SQUARE, run): run for run in runs}
        self.assertEqual(len(traces), len(runs))
        for trace, run in traces.items():
            self.assertEqual(run_of(SQUARE, trace), run)

    def test_a_run_or_a_bar(self):
        fitting = all_profiles(FORK, 2)
        for ticks in itertools.product(range(2), repeat=3):
            for others in itertools.product(range(3), repeat=3):
                profile = Profile(FORK, ticks, others)
                bars = [value for value in all_bar_values(3) if bar_holds(profile, value)]
                self.assertIs(len(bars) == 0, (ticks, others) in fitting)

    def test_a_claim_is_true_exactly_if_some_paper_holds(self):
        # All papers that are told for any profile or question are tried for each claim.
        profiles = [Profile(FORK, *sums) for sums in all_profiles(FORK, 2)]
        questions = all_questions(FORK)
        papers = {paper_of(profile, question) for profile in profiles for question in questions}
        barred = Profile(FORK, (0, 0, 0), (1, 0, 0))
        papers |= {paper_of(barred, ("fits",))} | set(all_bar_values(3))
        self.assertGreater(len(papers), 60)
        for profile in profiles[::3] + [barred]:
            for question in questions:
                true = true_claim(profile, question)
                for claim in claims_for(question, 2):
                    held = [paper for paper in papers if claim_holds(profile, claim, paper)]
                    self.assertIs(len(held) > 0, claim == true and true is not None)
                    for paper in held[:2]:
                        self.assertTrue(is_paper(profile, claim, paper))


if __name__ == "__main__":
    unittest.main()
