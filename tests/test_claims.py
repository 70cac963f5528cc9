"""Point [17]: questions, and the claims that may answer them."""

import itertools
import unittest

from sureticks.calls import Calls
from sureticks.claims import answer_of, is_claim, is_question, question_of
from sureticks.errors import InvalidClaim, InvalidQuestion, TickError
from sureticks.papers import claim_holds, paper_of
from sureticks.profiles import Profile
from sureticks.waiting import Work
from tests.reckoning import (
    all_questions, asked_by, claims_for, ends_of, enough_by_search, fits_some, flows_of, is_asked, true_claim,
)
from tests.samples import CHAIN, Couple, DIAMOND, FORK, FULL, LONE, ONE, Step, is_plain
from tests.searches import all_calls, all_profiles, anew, any_values, calls_with, changed_once, some_of

# 0 and 1 both may pass to 2 and 3.
SQUARE = Calls(4, ((0, 1), (0, 2), (0, 3), (1, 2), (1, 3)))
OPEN = Profile(SQUARE, (1, 2, 5, 4), (12, 6, 5, 4))
BARRED = Profile(SQUARE, (1, 2, 5, 4), (12, 6, 5, 5))
# As no run passes a tick along edges that are not reached, these are sure.
APART = Profile(Calls(5, ((0, 1), (2, 3), (2, 4))), (2, 3, 0, 0, 0), (5, 3, 0, 0, 0))
ZEROS = Profile(FULL, (0,) * 5, (0,) * 5)
PROFILES = (OPEN, BARRED, APART, ZEROS, Profile(ONE, (3,), (3,)), Profile(ONE, (3,), (4,)))

QUESTIONS = (("fits",), ("ends", (0, 2)), ("sure", (0, 2)), ("sure", (0, 1)), ("enough", ()), ("enough", ((0, 2),)))
CLAIMS = (
    ("fits",), ("bars",), ("ends", (0, 2), 1, 5), ("ends", (0, 2), 7, 0), ("sure", (0, 2), 3), ("sure", (0, 1), 6),
    ("open", (0, 2)), ("open", (0, 1)), ("enough", ()), ("short", ((0, 2),)), ("short", ()),
)


def word_values():
    """Values that are like questions and claims, but none for any profile of these tests."""
    words = ("fits", "bars", "ends", "sure", "open", "enough", "short", "Fits", "", "much", "sum", None, 0, True, ())
    found = [word for word in words] + [[word] for word in words]
    for word in words:
        if word not in ("fits", "bars"):
            found.append((word,))
        members = (None, "", "x", 0, True, [], [(0, 1)], (0, 1, 2), (1, 0), ((1, 0),), ((0, 1), (0, 1)), OPEN, SQUARE)
        for member in members:
            found.extend([(word, member), (word, member, 1), (word, member, 1, 1), (word, (0, 2), member, 1, 1)])
    return found


class Claims(unittest.TestCase):
    def is_no_question(self, profile, value):
        self.assertIs(is_question(profile, value), False)
        for look in (answer_of, paper_of):
            with self.assertRaises(InvalidQuestion) as held:
                look(profile, value)
            self.assertIs(held.exception.value, value)
            self.assertIsInstance(held.exception, TickError)

    def is_no_claim(self, profile, value):
        self.assertIs(is_claim(profile, value), False)
        with self.assertRaises(InvalidClaim) as held:
            question_of(profile, value)
        self.assertIs(held.exception.value, value)
        self.assertIsInstance(held.exception, TickError)
        for paper in (None, (), value, (0, ())):
            self.assertIs(claim_holds(profile, value, paper), False)

    def looked_at(self, profile, value):
        """What is told of value as a question, and as a claim, is what the words say."""
        if is_asked(profile, value):
            self.assertIs(is_question(profile, value), True, value)
            self.assertEqual(answer_of(profile, value), true_claim(profile, value))
        else:
            self.is_no_question(profile, value)
        question = asked_by(profile, value)
        if question is None:
            self.is_no_claim(profile, value)
        else:
            self.assertIs(is_claim(profile, value), True, value)
            self.assertEqual(question_of(profile, value), question)


class TestQuestions(Claims):
    def test_a_worked_profile(self):
        for question, claim in (
            (("fits",), ("fits",)), (("ends", (0, 2)), ("ends", (0, 2), 1, 5)),
            (("ends", (0, 1)), ("ends", (0, 1), 6, 6)), (("sure", (0, 1)), ("sure", (0, 1), 6)),
            (("sure", (0, 2)), ("open", (0, 2))), (("enough", ()), ("short", ())),
            (("enough", ((0, 2),)), ("enough", ((0, 2),))), (("enough", ((0, 1),)), ("short", ((0, 1),))),
        ):
            self.assertIs(is_question(OPEN, question), True)
            self.assertEqual(answer_of(OPEN, question), claim)
            self.assertEqual(question_of(OPEN, claim), question)

    def test_where_no_run_fits(self):
        self.assertEqual(answer_of(BARRED, ("fits",)), ("bars",))
        self.assertEqual(question_of(BARRED, ("bars",)), ("fits",))
        self.assertEqual(answer_of(BARRED, ("enough", ())), ("short", ()))
        self.assertEqual(answer_of(BARRED, ("enough", ((1, 3),))), ("enough", ((1, 3),)))
        for edge in SQUARE.edges:
            for value in (("ends", edge), ("sure", edge)):
                self.assertIs(is_question(OPEN, value), True)
                self.is_no_question(BARRED, value)
            for value in (("ends", edge, 0, 1), ("sure", edge, 1), ("open", edge)):
                self.assertIs(is_claim(OPEN, value), True)
                self.is_no_claim(BARRED, value)

    def test_edges_that_are_not_reached(self):
        for edge in APART.calls.edges:
            many = 3 if edge == (0, 1) else 0
            self.assertEqual(answer_of(APART, ("ends", edge)), ("ends", edge, many, many))
            self.assertEqual(answer_of(APART, ("sure", edge)), ("sure", edge, many))
        self.assertEqual(answer_of(APART, ("enough", ())), ("enough", ()))
        self.assertEqual(answer_of(APART, ("enough", ((2, 3), (2, 4)))), ("enough", ((2, 3), (2, 4))))

    def test_no_edges(self):
        for profile, word in ((Profile(ONE, (3,), (3,)), "fits"), (Profile(ONE, (3,), (4,)), "bars")):
            self.assertEqual(answer_of(profile, ("fits",)), (word,))
            self.assertEqual(answer_of(profile, ("enough", ())), ("enough", ()))
            self.is_no_question(profile, ("ends", (0, 1)))
            self.is_no_question(profile, ("enough", ((0, 1),)))

    def test_all_small_values(self):
        edges = [(g, f) for g in range(-1, 4) for f in range(5)] + [(False, 1), (0, True), [0, 1], (0, 1, 2), 0, ()]
        for profile in PROFILES:
            for word, edge in itertools.product(("fits", "ends", "sure", "open", "enough", "short", "bars"), edges):
                for rest in ((), (0,), (3,), (0, 0), (3, 5), (True,), (0, True), (-1,), (-1, 0), (0, 0, 0)):
                    self.looked_at(profile, (word, edge) + rest)
                self.looked_at(profile, (word, (edge,)))
            for word in ("fits", "bars", "ends", "enough", "Fits"):
                self.looked_at(profile, (word,))
                self.looked_at(profile, (word, ()))

    def test_all_marks(self):
        for profile in (OPEN, BARRED, APART, Profile(FORK, (1, 0, 0), (1, 0, 0))):
            for marks in some_of(profile.calls.edges):
                self.looked_at(profile, ("enough", marks))
                self.looked_at(profile, ("short", marks))
                if len(marks) > 1:
                    self.looked_at(profile, ("enough", marks[::-1]))
                    self.looked_at(profile, ("short", marks + marks))

    def test_values_of_all_kinds(self):
        for profile in PROFILES:
            for value in any_values() + word_values() + [profile, Work((1,), ())]:
                self.is_no_question(profile, value)
                self.is_no_claim(profile, value)
            for value in any_values():
                for word in ("fits", "ends", "sure", "open", "enough", "short", "bars", value):
                    if repr(value) not in ("()", "(0, 1)"):
                        for other in ((word, value), (word, (value,)), (word, (0, value)), (word, value, value)):
                            self.is_no_question(profile, other)
                            self.is_no_claim(profile, other)

    def test_changed_at_one_place(self):
        for profile in (OPEN, BARRED):
            for value in QUESTIONS + CLAIMS:
                self.looked_at(profile, value)
                for other in changed_once(value):
                    self.looked_at(profile, other)

    def test_numbers_in_claims(self):
        for many in (0, 1, 5, 6, 999999, 1000000, 10 ** 11):
            for value in (("ends", (0, 2), many, 0), ("ends", (0, 2), 0, many), ("sure", (0, 2), many)):
                self.assertIs(is_claim(OPEN, value), True)
                self.assertEqual(question_of(OPEN, value), value[:2])
        for many in any_values() + [-1, True, False, None, "1", (1,)]:
            if type(many) is not int or many < 0:
                for value in (("ends", (0, 2), many, 5), ("ends", (0, 2), 1, many), ("sure", (0, 1), many)):
                    self.is_no_claim(OPEN, value)

    def test_bools_and_lists(self):
        for value in (
            ("ends", (False, 2)), ("sure", (0, True)), ("ends", [0, 2]), ["ends", (0, 2)], ("enough", ((0, True),)),
            ("enough", [(0, 1)]), ("enough", ([0, 1],)), ("enough", []), ["fits"], (["fits"],), (("fits",),), "fits",
        ):
            self.is_no_question(OPEN, value)
            self.is_no_claim(OPEN, value)
        for value in (
            ("sure", (0, 1), True), ("ends", (0, 2), True, 5), ("ends", (0, 2), 1, False), ("open", (False, 2)),
        ):
            self.is_no_claim(OPEN, value)

    def test_questions_of_one_profile_are_none_of_another(self):
        self.assertIs(is_question(OPEN, ("ends", (0, 3))), True)
        self.is_no_question(Profile(CHAIN, (1, 1, 1), (3, 2, 1)), ("ends", (0, 2)))
        self.assertIs(is_question(Profile(CHAIN, (1, 1, 1), (3, 2, 1)), ("ends", (1, 2))), True)
        self.is_no_question(Profile(LONE, (1, 0, 0), (1, 0, 0)), ("enough", ((0, 1),)))


class TestAnswers(Claims):
    def test_the_searches_of_the_tests_agree(self):
        for calls, ticks in [(calls, 3) for calls in all_calls(3)] + [(SQUARE, 4), (DIAMOND, 4), (APART.calls, 3)]:
            for (own, whole), found in all_profiles(calls, ticks).items():
                self.assertEqual(sorted(flows_of(Profile(calls, own, whole))), found)
                self.assertTrue(fits_some(Profile(calls, own, whole)))
        for own in itertools.product(range(2), repeat=3):
            for whole in itertools.product(range(3), repeat=3):
                profile = Profile(FORK, own, whole)
                self.assertIs(fits_some(profile), len(flows_of(profile)) > 0)
        self.assertEqual(flows_of(BARRED), ())
        self.assertEqual(ends_of(OPEN, (0, 2)), (1, 5))
        self.assertIs(enough_by_search(SQUARE, ()), False)

    def test_a_search_through_all_runs(self):
        rows = [(calls, 3) for calls in all_calls(3)] + [(SQUARE, 3), (DIAMOND, 3), (APART.calls, 3)]
        for calls, ticks in rows + [(calls_with(5, number), 2) for number in range(7, 1024, 173)]:
            marks = some_of(calls.edges)[::7]
            for own, whole in all_profiles(calls, ticks):
                profile = Profile(calls, own, whole)
                for question in all_questions(calls, marks):
                    self.assertIs(is_question(profile, question), True)
                    answer = answer_of(profile, question)
                    self.assertEqual(answer, true_claim(profile, question))
                    self.assertTrue(is_plain(answer))
                    self.assertEqual(question_of(profile, answer), question)

    def test_profiles_that_do_not_fit(self):
        barred = 0
        for own in itertools.product(range(2), repeat=3):
            for whole in itertools.product(range(3), repeat=3):
                profile = Profile(FORK, own, whole)
                for question in all_questions(FORK, [(), ((0, 2),)]):
                    self.looked_at(profile, question)
                barred += not fits_some(profile)
        self.assertGreater(barred, 150)

    def test_just_one_claim_is_the_answer(self):
        for profile in PROFILES:
            for question in all_questions(profile.calls, some_of(profile.calls.edges)[:20]):
                if is_question(profile, question):
                    claims = claims_for(question, 12)
                    self.assertEqual([claim for claim in claims if claim == answer_of(profile, question)],
                                     [true_claim(profile, question)])
                    for claim in claims:
                        self.assertEqual(question_of(profile, claim), question)

    def test_the_greatest_ticks(self):
        profile = Profile(SQUARE, (0, 0, 499999, 500000), (999999, 499999, 499999, 500000))
        self.assertEqual(answer_of(profile, ("ends", (0, 2))), ("ends", (0, 2), 0, 499999))
        self.assertEqual(answer_of(profile, ("sure", (0, 1))), ("sure", (0, 1), 499999))
        self.assertEqual(answer_of(profile, ("sure", (0, 3))), ("open", (0, 3)))

    def test_equal_arguments_and_names(self):
        profile = anew(OPEN)
        for question in QUESTIONS:
            other = (question[0],) + tuple(tuple(list(member)) for member in question[1:])
            self.assertEqual(answer_of(profile, other), answer_of(OPEN, question))
            self.assertEqual(answer_of(question=question, profile=profile), answer_of(OPEN, question))
            self.assertIs(is_question(value=question, profile=profile), True)
        for claim in CLAIMS:
            self.assertEqual(question_of(claim=claim, profile=profile), question_of(OPEN, claim))
            self.assertIs(is_claim(value=claim, profile=profile), True)
        self.assertEqual(profile, OPEN)

    def test_profiles_by_turns(self):
        told = [[answer_of(profile, question) for question in QUESTIONS] for profile in (OPEN, anew(OPEN))]
        self.assertEqual(told[0], told[1])
        self.assertEqual(answer_of(BARRED, ("fits",)), ("bars",))
        self.assertEqual([answer_of(OPEN, question) for question in QUESTIONS], told[0])

    def test_tuples_and_integers_of_a_class_of_their_own(self):
        edge = Couple(Step.NONE, Step.TWO)
        for value in (Couple("ends", edge), Couple("sure", edge), Couple("enough", (edge,))):
            self.assertIs(is_question(OPEN, value), True)
            self.assertTrue(is_plain(answer_of(OPEN, value)))
            self.assertEqual(answer_of(OPEN, value), true_claim(OPEN, tuple(value)))
        for value in (
            ("sure", edge, Step.TWO), Couple("open", edge), Couple("short", (edge,)), ("ends", edge, 1, Step.TWO),
        ):
            self.assertIs(is_claim(OPEN, value), True)
            self.assertTrue(is_plain(question_of(OPEN, value)))

    def test_defined_in_their_file(self):
        for thing in (is_question, is_claim, answer_of, question_of):
            self.assertEqual(thing.__module__, "sureticks.claims")


if __name__ == "__main__":
    unittest.main()
