"""Point [18]: papers for answers, and which papers hold for a claim."""

import itertools
import unittest

from sureticks.calls import Calls
from sureticks.claims import answer_of
from sureticks.ends import run_with, unlike
from sureticks.fitting import bar, some_run
from sureticks.marking import alike, enough
from sureticks.papers import claim_holds, paper_of
from sureticks.pricing import at_least, at_most
from sureticks.profiles import Profile, fits, profile_of
from sureticks.waiting import Work
from tests.reckoning import (
    all_questions, claims_for, ends_of, fits_by_tree, is_order, is_paper, true_claim,
)
from tests.samples import (
    Couple, DIAMOND, FORK, FULL, ONE, Step, chance_runs, is_plain, passed_of_tree, small_runs,
)
from tests.searches import (
    all_bar_values, all_calls, all_profiles, anew, any_values, are_prices, calls_with, changed_once,
    reached_edges, show_at_least, show_at_most, some_of,
)

# 0 and 1 both may pass to 2 and 3.
SQUARE = Calls(4, ((0, 1), (0, 2), (0, 3), (1, 2), (1, 3)))
OPEN = Profile(SQUARE, (1, 2, 5, 4), (12, 6, 5, 4))
BARRED = Profile(SQUARE, (1, 2, 5, 4), (12, 6, 5, 5))
SMALL = Profile(SQUARE, (0, 0, 1, 1), (2, 1, 1, 1))
APART = Profile(Calls(5, ((0, 1), (2, 3), (2, 4))), (2, 3, 0, 0, 0), (5, 3, 0, 0, 0))
PROFILES = (OPEN, BARRED, SMALL, APART, Profile(ONE, (3,), (3,)), Profile(ONE, (3,), (4,)))
LOW = (0, (1, (1, (2, (2, (4,)))), (2, (1,)), (3, (4,))))
HIGH = (0, (1, (1, (2, (3, (4,)))), (2, (5,))))
# Prices that show that from 1 to 5 ticks pass along (0, 2), and that just 6 do along (0, 1).
FEWEST = ((1, 0, 0, 0), (0, -1, 0, -1))
MOST = ((0, 0, 0, 0), (0, 0, 1, 0))
ALL_OF_1 = (((0, 0, 0, 0), (0, 1, 0, 0)), ((1, 1, 0, 0), (0, 0, -1, -1)))
ENDS = ("ends", (0, 2), 1, 5)
SURE = ("sure", (0, 1), 6)
PAIR = ((0, ((2, (1,)), (1, ((3, (1,)),)))), (0, ((3, (1,)), (1, ((2, (1,)),)))))


class Papers(unittest.TestCase):
    def holds(self, profile, claim, paper):
        self.assertIs(claim_holds(profile, claim, paper), True, (claim, paper))
        self.assertTrue(is_paper(profile, claim, paper), (claim, paper))

    def fails(self, profile, claim, paper):
        self.assertIs(claim_holds(profile, claim, paper), False, (claim, paper))
        self.assertFalse(is_paper(profile, claim, paper), (claim, paper))

    def looked_at(self, profile, claim, paper):
        """What the looker tells is what the words say."""
        expected = is_paper(profile, claim, paper)
        self.assertIs(claim_holds(profile, claim, paper), expected, (claim, paper))
        return expected

    def answers(self, profile, question):
        """The paper for the answer is one, and is one for no other claim that may answer."""
        claim, paper = answer_of(profile, question), paper_of(profile, question)
        self.assertEqual(claim, true_claim(profile, question))
        self.assertTrue(is_plain(paper))
        self.holds(profile, claim, paper)
        for other in claims_for(question, 3):
            if other != claim:
                self.fails(profile, other, paper)
        return claim, paper


class TestPapers(Papers):
    def test_each_kind(self):
        self.holds(OPEN, ("fits",), LOW)
        self.holds(BARRED, ("bars",), ("much", (3,)))
        self.holds(OPEN, ENDS, (LOW, HIGH, FEWEST, MOST))
        self.holds(OPEN, SURE, (HIGH, ALL_OF_1[1], ALL_OF_1[0]))
        self.holds(OPEN, ("open", (0, 2)), (LOW, HIGH))
        self.holds(OPEN, ("enough", ((0, 2),)), ((0, 1), (0, 3), (1, 3), (1, 2)))
        self.holds(OPEN, ("short", ()), PAIR)

    def test_papers_for_all_questions(self):
        for profile in PROFILES:
            for question in all_questions(profile.calls):
                if question[0] not in ("ends", "sure") or true_claim(profile, question) is not None:
                    self.answers(profile, question)

    def test_small_profiles(self):
        rows = [(calls, 2) for calls in all_calls(3)] + [(SQUARE, 3), (DIAMOND, 3)]
        for calls, ticks in rows + [(calls_with(5, number), 1) for number in range(7, 1024, 173)]:
            marks = some_of(calls.edges)[::9]
            for own, whole in all_profiles(calls, ticks):
                for question in all_questions(calls, marks):
                    self.answers(Profile(calls, own, whole), question)

    def test_small_profiles_that_do_not_fit(self):
        for own in itertools.product(range(2), repeat=3):
            for whole in itertools.product(range(3), repeat=3):
                for question in (("fits",), ("enough", ())):
                    self.answers(Profile(FORK, own, whole), question)

    def test_large_profiles(self):
        for calls, run in chance_runs(2) + [(SQUARE, (0, ((1, ((2, (70000,)), (3, (5,)))), (2, (9,)), (3, (80,)))))]:
            profile = profile_of(calls, run)
            for question in all_questions(calls, [(), calls.edges]):
                claim, paper = answer_of(profile, question), paper_of(profile, question)
                self.assertTrue(is_plain((claim, paper)))
                self.holds(profile, claim, paper)

    def test_the_greatest_ticks(self):
        for profile in (
            Profile(FULL, (0, 0, 0, 0, 999999), (999999,) * 5), Profile(FULL, (0,) * 5, (0,) * 5),
            Profile(FULL, (999999, 0, 0, 0, 0), (999999, 0, 0, 0, 0)),
            Profile(SQUARE, (0, 0, 499999, 500000), (999999, 499999, 499999, 500000)),
        ):
            for question in all_questions(profile.calls, [()]):
                self.holds(profile, answer_of(profile, question), paper_of(profile, question))
        for profile in (Profile(FULL, (999999,) * 5, (999999,) * 5), Profile(FULL, (999999,) * 5, (0,) * 5)):
            self.holds(profile, ("bars",), paper_of(profile, ("fits",)))

    def test_all_marks_of_all_edges(self):
        for marks in some_of(FULL.edges)[::5]:
            profile = Profile(FULL, (0,) * 5, (0,) * 5)
            claim = ("enough" if enough(FULL, marks) else "short", marks)
            self.assertEqual(answer_of(profile, ("enough", marks)), claim)
            self.holds(profile, claim, paper_of(profile, ("enough", marks)))

    def test_equal_arguments_and_names(self):
        profile = anew(OPEN)
        for question in all_questions(SQUARE):
            claim, paper = answer_of(OPEN, question), paper_of(OPEN, question)
            self.assertEqual(paper_of(profile, question), paper)
            self.assertEqual(paper_of(question=question, profile=profile), paper)
            self.assertIs(claim_holds(paper=paper, claim=claim, profile=profile), True)
        self.assertEqual(profile, OPEN)

    def test_tuples_and_integers_of_a_class_of_their_own(self):
        edge = Couple(Step.NONE, Step.TWO)
        for question in (Couple("ends", edge), Couple("sure", edge), Couple("enough", (edge,)), Couple("enough", ())):
            self.assertTrue(is_plain(paper_of(OPEN, question)))
            self.holds(OPEN, answer_of(OPEN, question), paper_of(OPEN, question))
        self.assertIs(claim_holds(OPEN, ("ends", edge, Step.ONE, 5), (LOW, HIGH, Couple(*FEWEST), MOST)), True)
        self.assertIs(claim_holds(OPEN, Couple("open", edge), Couple(LOW, HIGH)), True)
        order = (Couple(Step.NONE, Step.ONE), (0, 3), (Step.ONE, 3), (1, 2))
        self.assertIs(claim_holds(OPEN, ("enough", (edge,)), order), True)

    def test_defined_in_their_file(self):
        for thing in (paper_of, claim_holds):
            self.assertEqual(thing.__module__, "sureticks.papers")


class TestClaimHolds(Papers):
    def test_any_run_that_fits(self):
        runs = [run for run in small_runs(SQUARE, 0, 12) if fits_by_tree(SMALL, run)]
        self.assertGreater(len(runs), 50)
        for run in runs:
            self.holds(SMALL, ("fits",), run)
            for edge, many in zip(SQUARE.edges, passed_of_tree(SQUARE, run)):
                low, high, *others = paper_of(SMALL, ("ends", edge))
                for claim in claims_for(("ends", edge), 1) + claims_for(("sure", edge), 1):
                    for paper in ((run, high, *others), (low, run, *others), (run, *others)):
                        self.looked_at(SMALL, claim, paper)
                ends = ("ends", edge) + ends_of(SMALL, edge)
                self.assertIs(claim_holds(SMALL, ends, (run, high, *others)), many == ends[2])
                self.assertIs(claim_holds(SMALL, ends, (low, run, *others)), many == ends[3])
        for one, other in itertools.product(runs[::5], runs[::7]):
            for edge in SQUARE.edges:
                self.looked_at(SMALL, ("open", edge), (one, other))
            self.looked_at(SMALL, ("short", ()), (one, other))

    def test_runs_of_other_profiles(self):
        for run in small_runs(SQUARE, 0, 7):
            self.assertIs(claim_holds(SMALL, ("fits",), run), fits_by_tree(SMALL, run))
            self.assertIs(claim_holds(BARRED, ("fits",), run), False)
        self.fails(OPEN, ("fits",), some_run(SMALL))
        self.fails(OPEN, ENDS, (run_with(SMALL, (0, 2), 1), HIGH, FEWEST, MOST))
        self.fails(OPEN, ENDS, (LOW, run_with(SMALL, (0, 2), 1), FEWEST, MOST))
        self.fails(OPEN, SURE, (some_run(SMALL), ALL_OF_1[1], ALL_OF_1[0]))
        self.fails(OPEN, ("open", (0, 2)), unlike(SMALL, (0, 2)))
        # A pair for marks needs not fit the profile.
        self.holds(OPEN, ("short", ()), alike(SQUARE, ()))
        self.holds(BARRED, ("short", ()), alike(SQUARE, ()))
        self.assertIs(fits(OPEN, alike(SQUARE, ())[0]), False)

    def test_any_bar(self):
        for profile in (BARRED, Profile(SQUARE, (7, 0, 0, 0), (6, 0, 0, 0)), Profile(FORK, (4, 6, 1), (8, 2, 1))):
            held = [value for value in all_bar_values(4) if self.looked_at(profile, ("bars",), value)]
            self.assertIn(bar(profile), held)
            for value in all_bar_values(4):
                self.fails(profile, ("fits",), value)
        for value in all_bar_values(4):
            self.fails(OPEN, ("bars",), value)

    def test_any_prices(self):
        sides = list(itertools.product((-1, 0, 1), repeat=4))
        rows = [(up, down) for up in sides[::2] for down in sides if down[0] == 0]
        held = [0, 0, 0]
        for value in rows:
            most, fewest = show_at_most(OPEN, (0, 2), 5, value), show_at_least(OPEN, (0, 2), 1, value)
            self.assertIs(claim_holds(OPEN, ENDS, (LOW, HIGH, FEWEST, value)), most)
            self.assertIs(claim_holds(OPEN, ENDS, (LOW, HIGH, value, MOST)), fewest)
            sure = show_at_most(OPEN, (0, 1), 6, value)
            self.assertIs(claim_holds(OPEN, SURE, (LOW, ALL_OF_1[1], value)), sure)
            held = [many + told for many, told in zip(held, (most, fewest, sure))]
        self.assertGreater(min(held), 5)
        for price in (-9, 9):
            self.holds(OPEN, ENDS, (LOW, HIGH, (FEWEST[0][:3] + (price,), FEWEST[1]), MOST))
        for price in (-10, 10):
            self.fails(OPEN, ENDS, (LOW, HIGH, (FEWEST[0][:3] + (price,), FEWEST[1]), MOST))

    def test_all_orders_of_edges(self):
        for marks in (((0, 2),), ((1, 3),), ((0, 1), (0, 2)), SQUARE.edges, ()):
            free = [edge for edge in SQUARE.edges if edge not in marks]
            orders = list(itertools.permutations(free))
            held = [order for order in orders if self.looked_at(OPEN, ("enough", marks), order)]
            self.assertEqual(bool(held), marks != ())
            for order in held:
                self.fails(OPEN, ("short", marks), order)
                for row in (order[:-1], order + order, order + order[:1], order[1:], order + ((0, 1),)):
                    self.looked_at(OPEN, ("enough", marks), row)
        self.assertEqual(paper_of(OPEN, ("enough", SQUARE.edges)), ())
        self.fails(OPEN, ("enough", SQUARE.edges), ((0, 1),))
        # In this order (0, 2) has both its functions behind it, with (0, 3) and (1, 2).
        self.fails(OPEN, ("enough", ((1, 3),)), ((0, 2), (0, 1), (0, 3), (1, 2)))

    def test_orders_of_five_functions(self):
        calls = Calls(5, ((0, 1), (0, 3), (0, 4), (1, 3), (2, 3), (2, 4)))
        profile = Profile(calls, (0,) * 5, (0,) * 5)
        # Nothing calls 2.
        self.assertEqual(len(reached_edges(calls)), 4)
        rows = itertools.chain(itertools.permutations(calls.edges[:4]), itertools.permutations(calls.edges, 5))
        held = [row for row in rows if self.looked_at(profile, ("enough", ()), row)]
        self.assertGreater(len(held), 10)
        self.assertLess(len(held), 24)
        for marks in (((2, 3),), ((2, 3), (2, 4)), ((0, 1), (2, 4))):
            self.answers(profile, ("enough", marks))

    def test_runs_that_pass_other_numbers(self):
        runs = {many: run_with(OPEN, (0, 2), many) for many in range(1, 6)}
        for low, high in itertools.product(range(7), repeat=2):
            for one, other in itertools.product((1, 2, 5), repeat=2):
                paper = (runs[one], runs[other], FEWEST, MOST)
                expected = (one, other, low, high) == (1, 5, 1, 5)
                self.assertIs(self.looked_at(OPEN, ("ends", (0, 2), low, high), paper), expected)
        for many in range(9):
            for edge in SQUARE.edges:
                self.looked_at(OPEN, ("sure", edge, many), (LOW, ALL_OF_1[1], ALL_OF_1[0]))
        for one, other in itertools.product(range(1, 6), repeat=2):
            self.assertIs(claim_holds(OPEN, ("open", (0, 2)), (runs[one], runs[other])), one != other)
            self.fails(OPEN, ("open", (0, 1)), (runs[one], runs[other]))

    def test_the_order_of_a_paper(self):
        for paper in itertools.permutations((LOW, HIGH, FEWEST, MOST)):
            self.assertIs(claim_holds(OPEN, ENDS, paper), paper == (LOW, HIGH, FEWEST, MOST))
        for paper in itertools.permutations((LOW, ALL_OF_1[1], ALL_OF_1[0])):
            self.looked_at(OPEN, SURE, paper)
        self.holds(OPEN, ("open", (0, 2)), (HIGH, LOW))
        self.holds(OPEN, ("short", ()), PAIR[::-1])

    def test_papers_of_one_claim_for_another(self):
        rows = [(answer_of(OPEN, question), paper_of(OPEN, question)) for question in all_questions(SQUARE)]
        papers = [paper for _, paper in rows][::2] + [("sum",), (LOW, HIGH, FEWEST, MOST), ()]
        claims = [claim for claim, _ in rows][::3] + [("bars",), ENDS, SURE, ("open", (0, 2)), ("short", ())]
        for claim, paper in itertools.product(claims, papers):
            self.looked_at(OPEN, claim, paper)

    def test_bools(self):
        profile = SMALL
        edge = (1, 2)
        claim = ("ends", edge, 0, 1)
        runs = (run_with(profile, edge, 0), run_with(profile, edge, 1))
        paper = runs + (at_least(profile, edge), at_most(profile, edge))
        self.holds(profile, claim, paper)
        for place in range(2):
            for old, new in (("0", "False"), ("1", "True")):
                text = repr(paper[place + 2])
                for at in [at for at in range(len(text)) if text[at] == old]:
                    prices = eval(text[:at] + new + text[at + 1:])
                    self.fails(profile, claim, paper[:place + 2] + (prices,) + paper[place + 3:])
        for low, high in ((False, 1), (0, True), (False, True)):
            self.fails(profile, ("ends", edge, low, high), paper)
        self.fails(profile, ("ends", (True, 2), 0, 1), paper)
        self.fails(profile, ("enough", ((0, 2),)), ((False, 1), (0, 3), (1, 3), (1, 2)))
        self.fails(profile, ("enough", ((False, 2),)), ((0, 1), (0, 3), (1, 3), (1, 2)))
        self.fails(Profile(ONE, (0,), (0,)), ("fits",), (False, ()))
        self.fails(Profile(ONE, (1,), (1,)), ("fits",), (0, (True,)))
        self.fails(Profile(ONE, (1,), (0,)), ("bars",), ("less", False))

    def test_lists(self):
        order = ((0, 1), (0, 3), (1, 3), (1, 2))
        for claim, paper in (
            (("fits",), list(LOW)), (["fits"], LOW), (ENDS, [LOW, HIGH, FEWEST, MOST]),
            (list(ENDS), (LOW, HIGH, FEWEST, MOST)), (ENDS, (LOW, HIGH, list(FEWEST), MOST)),
            (ENDS, (list(LOW), HIGH, FEWEST, MOST)), (("open", (0, 2)), [LOW, HIGH]), (("short", ()), list(PAIR)),
            (("enough", ((0, 2),)), list(order)), (("enough", SQUARE.edges), []), (("enough", [(0, 2)]), order),
            (("enough", ((0, 2),)), ([0, 1],) + order[1:]),
        ):
            self.fails(OPEN, claim, paper)

    def test_values_of_all_kinds(self):
        claims = (("fits",), ("bars",), ENDS, SURE, ("open", (0, 2)), ("enough", ((0, 2),)), ("short", ()))
        for value in any_values() + [OPEN, SQUARE, Work((1,), ())]:
            for claim in claims:
                for paper in (value, (value,), (value, value), (value, LOW), (LOW, value), (LOW, HIGH, value, MOST),
                              (LOW, HIGH, FEWEST, value), (value, HIGH, FEWEST, MOST), (LOW, value, FEWEST, MOST),
                              ((0, 1), (0, 3), value, (1, 2)), (value,) * 4, (LOW, value, ALL_OF_1[0])):
                    self.assertIs(claim_holds(OPEN, claim, paper), False)
            for paper in (LOW, (LOW, HIGH, FEWEST, MOST), PAIR, value):
                self.assertIs(claim_holds(OPEN, value, paper), False)
                self.assertIs(claim_holds(OPEN, (value, (0, 2)), paper), False)
                if repr(value) != "()":
                    self.assertIs(claim_holds(OPEN, ("short", value), paper), False)
        self.assertIs(claim_holds(BARRED, ("bars",), OPEN), False)

    def test_cut_off_and_lengthened(self):
        for question in all_questions(SQUARE):
            claim, paper = answer_of(OPEN, question), paper_of(OPEN, question)
            for value in (claim, paper):
                others = [value[:many] for many in range(len(value))] + [value + value, value + value[:1], value + (0,)]
                for other in others:
                    self.looked_at(OPEN, claim if value is paper else other, other if value is paper else paper)

    def test_changed_at_one_place(self):
        self.assertTrue(are_prices(OPEN, FEWEST))
        rows = [(OPEN, question) for question in (
            ("fits",), ("ends", (0, 2)), ("sure", (0, 1)), ("sure", (1, 3)), ("enough", ()), ("enough", ((0, 3),)))]
        for profile, question in rows + [(BARRED, ("fits",)), (Profile(SQUARE, (7, 0, 0, 0), (6, 0, 0, 0)), ("fits",))]:
            claim, paper = answer_of(profile, question), paper_of(profile, question)
            refused = 0
            for other in changed_once(paper):
                refused += not self.looked_at(profile, claim, other)
            for other in changed_once(claim):
                self.looked_at(profile, other, paper)
            self.assertGreater(refused, 15)
            if question == ("ends", (0, 2)):
                self.assertTrue(is_order(SQUARE, ((0, 2),), paper_of(OPEN, ("enough", ((0, 2),)))))


if __name__ == "__main__":
    unittest.main()
