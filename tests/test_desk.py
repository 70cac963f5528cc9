"""Points [19] and [20]: desks, their deeds, and the claims and papers that they keep."""

import random
import unittest

from sureticks import errors
from sureticks.calls import Calls
from sureticks.claims import is_question
from sureticks.desk import Desk, same_state
from sureticks.errors import (
    InvalidEdge, InvalidNumber, InvalidQuestion, InvalidRun, NothingToUndo, TickError, Undefined,
)
from sureticks.papers import claim_holds, paper_of
from sureticks.profiles import Profile, profile_of
from sureticks.waiting import Work
from tests.reckoning import PlainDesk, all_questions, is_paper, true_claim
from tests.samples import (
    CHAIN, Couple, DIAMOND, FULL, ONE, Step, is_plain, own_of_tree, small_runs, whole_of_tree,
)
from tests.searches import PAIRS, any_values, is_number, some_of

# 0 and 1 both may pass to 2 and 3.
SQUARE = Calls(4, ((0, 1), (0, 2), (0, 3), (1, 2), (1, 3)))
RUN = (0, (1, (1, (2, (2, (4,)))), (2, (1,)), (3, (4,))))
OTHER_RUN = (0, (1, (2, (5,)), (1, (2, (3, (4,))))))
OPEN = Profile(SQUARE, (1, 2, 5, 4), (12, 6, 5, 4))
BARRED = Profile(SQUARE, (1, 2, 5, 4), (12, 6, 5, 5))
# The same as OPEN but for one tick more that is spent in 0.
LONGER = Profile(SQUARE, (2, 2, 5, 4), (13, 6, 5, 4))
EIGHT = (
    ("fits",), ("ends", (0, 1)), ("ends", (0, 2)), ("sure", (0, 1)), ("sure", (0, 3)), ("enough", ()),
    ("enough", ((0, 2),)), ("sure", (1, 2)),
)
DEEDS = ("spend", "take", "record", "link", "cut", "watch", "leave", "undo", "redo")


def desk_with(profile, questions):
    desk = Desk(profile)
    for question in questions:
        desk.watch(question)
    return desk


def shown(desk):
    """All that a desk shows."""
    kept = [(desk.claim(question), desk.paper(question)) for question in desk.watched]
    return desk.profile, desk.watched, desk.many, desk.report(), kept


def redone(desk):
    """How many deeds can be redone; all that can be are."""
    many = 0
    while True:
        try:
            desk.redo()
        except NothingToUndo:
            return many
        many += 1


class Desks(unittest.TestCase):
    def refuses(self, desk, error, value, word, *arguments):
        """The deed is refused with this error, which keeps value, and the desk stays as it is."""
        before = shown(desk)
        with self.assertRaises(error) as held:
            getattr(desk, word)(*arguments)
        self.assertIs(type(held.exception), error)
        self.assertIsInstance(held.exception, TickError)
        kept = "what" if error is Undefined else "word" if error is NothingToUndo else "value"
        if error in (Undefined, NothingToUndo):
            self.assertEqual(getattr(held.exception, kept), value)
        else:
            self.assertIs(getattr(held.exception, kept), value)
        self.assertEqual(shown(desk), before)

    def does(self, desk, word, *arguments):
        self.assertIsNone(getattr(desk, word)(*arguments))

    def is_right(self, desk):
        """What a desk shows is of plain kinds, and each kept claim is the true one, with a paper."""
        profile, watched, many, report, kept = shown(desk)
        self.assertTrue(is_plain((watched, many, report, tuple(pair for pair in kept if pair != (None, None)))))
        self.assertEqual(len(report), len(watched))
        for question, (claim, paper) in zip(watched, kept):
            self.assertEqual(claim, true_claim(profile, question))
            if claim is None:
                self.assertIsNone(paper)
            else:
                self.assertTrue(is_paper(profile, claim, paper))
                self.assertIs(claim_holds(profile, claim, paper), True)


class TestDeeds(Desks):
    def test_a_new_desk(self):
        desk = Desk(OPEN)
        self.assertEqual(shown(desk), (OPEN, (), 0, (), []))
        self.assertLessEqual({"profile", "watched", "many"}, set(vars(desk)))
        self.refuses(desk, NothingToUndo, "undo", "undo")
        self.refuses(desk, NothingToUndo, "redo", "redo")
        self.assertEqual(shown(Desk(profile=BARRED)), (BARRED, (), 0, (), []))

    def test_spend_and_take(self):
        desk = Desk(OPEN)
        for function in range(4):
            for many in (0, 1, 999999):
                self.does(desk, "spend", function, many)
                own = OPEN.own[:function] + (many,) + OPEN.own[function + 1:]
                self.assertEqual(desk.profile, Profile(SQUARE, own, OPEN.whole))
                self.does(desk, "take", function, many)
                whole = OPEN.whole[:function] + (many,) + OPEN.whole[function + 1:]
                self.assertEqual(desk.profile, Profile(SQUARE, own, whole))
                desk.undo()
                desk.undo()
                self.assertEqual(desk.profile, OPEN)
        self.assertTrue(is_plain((desk.profile.own, desk.profile.whole)))

    def test_record(self):
        desk = Desk(BARRED)
        for run in (RUN, OTHER_RUN, (0, ()), (0, (999999,)), (0, ((1, ()),) * 199), (0, (1,) * 400)):
            self.does(desk, "record", run)
            told = Profile(SQUARE, own_of_tree(SQUARE, run), whole_of_tree(SQUARE, run))
            self.assertEqual(desk.profile, told)
            self.assertEqual(desk.profile, profile_of(SQUARE, run))
        self.assertEqual(desk.many, 6)

    def test_link_and_cut(self):
        desk = Desk(Profile(Calls(5, ()), (1, 0, 0, 0, 0), (1, 0, 0, 0, 0)))
        order = list(PAIRS)
        random.Random(19).shuffle(order)
        for place, edge in enumerate(order):
            self.does(desk, "link", edge)
            self.assertEqual(desk.profile.calls, Calls(5, tuple(sorted(order[:place + 1]))))
            self.refuses(desk, InvalidEdge, edge, "link", edge)
        for place, edge in enumerate(order):
            self.does(desk, "cut", edge)
            self.assertEqual(desk.profile.calls, Calls(5, tuple(sorted(order[place + 1:]))))
            self.refuses(desk, InvalidEdge, edge, "cut", edge)
        self.assertEqual(desk.profile.own, (1, 0, 0, 0, 0))
        self.assertEqual(desk.many, 20)

    def test_watch_and_leave(self):
        desk = Desk(OPEN)
        for place, question in enumerate(EIGHT):
            self.does(desk, "watch", question)
            self.assertEqual(desk.watched, EIGHT[:place + 1])
            self.assertEqual(desk.report(), ("kept",) * place + ("new",))
        self.assertEqual(desk.profile, OPEN)
        self.does(desk, "leave", EIGHT[3])
        self.assertEqual(desk.watched, EIGHT[:3] + EIGHT[4:])
        self.assertEqual(desk.report(), ("kept",) * 7)
        self.does(desk, "watch", EIGHT[3])
        self.assertEqual(desk.watched, EIGHT[:3] + EIGHT[4:] + EIGHT[3:4])
        self.assertEqual(desk.report(), ("kept",) * 7 + ("new",))
        self.assertEqual(desk.many, 10)
        self.is_right(desk)

    def test_what_is_watched_twice_keeps_its_place(self):
        desk = desk_with(OPEN, EIGHT[:3])
        for question in EIGHT[:3]:
            before = shown(desk)
            self.does(desk, "watch", question)
            self.assertEqual(shown(desk), before[:2] + (before[2] + 1, ("kept",) * 3, before[4]))
        self.does(desk, "undo")
        self.assertEqual((desk.watched, desk.many), (EIGHT[:3], 5))

    def test_watched_twice_while_it_is_none(self):
        desk = desk_with(OPEN, EIGHT[:3])
        desk.spend(0, 2)
        self.refuses(desk, InvalidQuestion, EIGHT[1], "watch", EIGHT[1])
        desk.take(0, 13)
        self.does(desk, "watch", EIGHT[1])
        self.assertEqual(desk.watched, EIGHT[:3])
        # A question that is none now may be left, and is not watched anew then.
        desk.spend(1, 0)
        self.does(desk, "leave", EIGHT[1])
        self.assertEqual(desk.watched, (EIGHT[0], EIGHT[2]))
        self.refuses(desk, InvalidQuestion, EIGHT[1], "watch", EIGHT[1])

    def test_deeds_by_which_nothing_changes(self):
        desk = desk_with(OPEN, [("fits",)])
        desk.spend(0, 7)
        desk.undo()
        for word, arguments in (
            ("spend", (0, 1)), ("take", (0, 12)), ("record", (RUN,)), ("watch", (("fits",),)), ("spend", (2, 5)),
        ):
            many = desk.many
            self.does(desk, word, *arguments)
            self.assertEqual((desk.profile, desk.watched, desk.many), (OPEN, (("fits",),), many + 1))
            self.assertEqual(desk.report(), ("kept",))
            self.refuses(desk, NothingToUndo, "redo", "redo")
        for many in range(5, -1, -1):
            self.does(desk, "undo")
            self.assertEqual(desk.many, many)
        self.assertEqual(shown(desk), (OPEN, (), 0, (), []))

    def test_names(self):
        desk = Desk(profile=OPEN)
        self.assertIsNone(desk.spend(many=2, function=0))
        self.assertIsNone(desk.take(many=13, function=0))
        self.assertEqual(desk.profile, LONGER)
        self.assertIsNone(desk.watch(question=("fits",)))
        self.assertEqual(desk.claim(question=("fits",)), ("fits",))
        self.assertTrue(is_paper(LONGER, ("fits",), desk.paper(question=("fits",))))
        self.assertIsNone(desk.leave(question=("fits",)))
        self.assertIsNone(desk.cut(edge=(0, 3)))
        self.assertIsNone(desk.link(edge=(0, 3)))
        self.assertIsNone(desk.record(run=RUN))
        self.assertIsNone(desk.undo())
        self.assertIsNone(desk.redo())
        self.assertIs(same_state(other=desk, one=desk), True)

    def test_methods_are_defined_in_the_class(self):
        self.assertLessEqual(set(DEEDS) | {"claim", "paper", "report"}, set(vars(Desk)))
        self.assertEqual((Desk.__module__, same_state.__module__), ("sureticks.desk", "sureticks.desk"))

    def test_equal_to_itself_alone(self):
        desk, other = Desk(OPEN), Desk(OPEN)
        self.assertTrue(desk == desk)
        self.assertFalse(desk != desk)
        for value in any_values() + [other, OPEN, (OPEN, ())]:
            self.assertIs(desk == value, False)
            self.assertIs(value == desk, False)
            self.assertIs(desk != value, True)

    def test_not_iterable(self):
        desk = desk_with(OPEN, EIGHT)
        for look in (iter, list, tuple, len):
            with self.assertRaises(TypeError):
                look(desk)
        with self.assertRaises(TypeError):
            ("fits",) in desk

    def test_tuples_and_integers_of_a_class_of_their_own(self):
        desk = Desk(OPEN)
        desk.watch(Couple("ends", Couple(Step.NONE, Step.TWO)))
        desk.watch(Couple("enough", (Couple(Step.NONE, Step.TWO),)))
        self.assertEqual(desk.watched, (("ends", (0, 2)), ("enough", ((0, 2),))))
        desk.spend(Step.NONE, Step.TWO)
        desk.cut(Couple(Step.NONE, Step.ONE))
        desk.link(Couple(Step.NONE, Step.ONE))
        desk.record((Step.NONE, (Couple(Step.ONE, (Step.TWO,)),)))
        self.assertEqual(desk.profile, profile_of(SQUARE, (0, ((1, (2,)),))))
        self.is_right(desk)
        desk.leave(Couple("ends", (0, Step.TWO)))
        self.assertEqual(desk.watched, (("enough", ((0, 2),)),))


class TestRefused(Desks):
    def desk(self):
        """A desk of which deeds can be undone and redone."""
        desk = desk_with(OPEN, EIGHT)
        desk.spend(0, 2)
        desk.take(0, 13)
        desk.take(3, 9)
        desk.spend(3, 9)
        desk.undo()
        desk.undo()
        self.assertEqual((desk.profile, desk.many), (LONGER, 10))
        return desk

    def stays(self, desk):
        """What can be redone is what it was ahead of all that was refused."""
        self.assertIs(same_state(desk, self.desk()), True)
        self.assertEqual(redone(desk), 2)
        self.assertEqual(desk.profile, Profile(SQUARE, (2, 2, 5, 9), (13, 6, 5, 9)))

    def test_functions_and_numbers(self):
        desk = self.desk()
        for value in any_values() + [OPEN, desk, Work((1,), ()), -1, 4, "0", (0,), [0], True, False, None]:
            for word in ("spend", "take"):
                if not (is_number(value) and 0 <= value <= 3):
                    self.refuses(desk, InvalidNumber, value, word, value, 1)
                    self.refuses(desk, InvalidNumber, value, word, value, [None])
                if not (is_number(value) and 0 <= value <= 999999):
                    self.refuses(desk, InvalidNumber, value, word, 0, value)
                    self.refuses(desk, InvalidNumber, value, word, 3, value)
        for wrong in (-1, 1000000, 10 ** 11):
            self.refuses(desk, InvalidNumber, wrong, "spend", 0, wrong)
            self.refuses(desk, InvalidNumber, wrong, "take", 0, wrong)
        self.stays(desk)

    def test_runs(self):
        desk = self.desk()
        for value in any_values() + [
            OPEN, desk, (1, ()), (0, (0,)), (0, (1,) * 401), (0, ((1, ()),) * 200), (0, (1000000,)), (0, ((4, ()),)),
            (0, ((2, ((3, ()),)),)), (False, ()), (0, (True,)), [0, ()], (0, [1]), None,
        ]:
            self.refuses(desk, InvalidRun, value, "record", value)
        self.stays(desk)

    def test_edges(self):
        desk = self.desk()
        for value in any_values() + [
            OPEN, desk, (1, 0), (2, 2), (3, 4), (0, 4), (-1, 0), (False, 1), (0, True), (2, True), [2, 3], [0, 1],
            (2, 3, 0), (2,), "23", ("2", "3"), ((2, 3),), None,
        ]:
            if repr(value) != "(0, 1)":
                self.refuses(desk, InvalidEdge, value, "cut", value)
            self.refuses(desk, InvalidEdge, value, "link", value)
        for edge in SQUARE.edges:
            self.refuses(desk, InvalidEdge, edge, "link", edge)
        missing = (2, 3)
        self.refuses(desk, InvalidEdge, missing, "cut", missing)
        self.stays(desk)

    def test_questions(self):
        desk = self.desk()
        wrong = any_values() + [
            OPEN, desk, ("bars",), ("ends",), ("ends", (2, 3)), ("ends", (0, 2), 1, 5), ("open", (0, 2)), ("short", ()),
            ("enough",), ("enough", ((0, 2), (0, 1))), ("enough", ((0, 1), (0, 1))), ("enough", ((2, 3),)), ["fits"],
            ("ends", [0, 2]), ("enough", []), "fits", ("fits", ()), (("fits",),), None,
        ]
        bools = [
            ("ends", (False, 1)), ("ends", (0, True)), ("ends", (False, 2)), ("sure", (0, True)), ("sure", (True, 2)),
            ("enough", ((False, 2),)),
        ]
        for value in wrong + bools:
            self.refuses(desk, InvalidQuestion, value, "watch", value)
            # They are equal to watched questions for Python where True is 1.
            self.refuses(desk, Undefined, "watched", "leave", value)
            for look in (desk.claim, desk.paper):
                with self.assertRaises(Undefined) as held:
                    look(value)
                self.assertEqual(held.exception.what, "watched")
        for question in (("ends", (0, 3)), ("enough", ((0, 3),)), ("sure", (0, 2))):
            self.assertIs(is_question(LONGER, question), True)
            self.refuses(desk, Undefined, "watched", "leave", question)
        self.stays(desk)

    def test_nothing_to_undo(self):
        desk = self.desk()
        for many in range(9, -1, -1):
            self.does(desk, "undo")
            self.assertEqual(desk.many, many)
        self.refuses(desk, NothingToUndo, "undo", "undo")
        self.assertEqual(shown(desk), (OPEN, (), 0, (), []))
        for many in range(1, 13):
            self.does(desk, "redo")
            self.assertEqual(desk.many, many)
        self.refuses(desk, NothingToUndo, "redo", "redo")
        self.assertEqual(desk.many, 12)

    def test_refused_where_no_run_fits(self):
        desk = Desk(BARRED)
        for question in EIGHT:
            if question[0] in ("ends", "sure"):
                self.refuses(desk, InvalidQuestion, question, "watch", question)
            else:
                self.does(desk, "watch", question)
        self.assertEqual(desk.many, 3)


class TestUndone(Desks):
    def test_all_deeds_are_undone_and_redone(self):
        desk = Desk(OPEN)
        states = [(desk.profile, desk.watched)]
        for word, arguments in (
            ("watch", (("fits",),)), ("spend", (0, 2)), ("watch", (("enough", ((0, 2),)),)), ("take", (0, 13)),
            ("link", ((2, 3),)), ("watch", (("ends", (2, 3)),)), ("cut", ((0, 2),)), ("leave", (("fits",),)),
            ("record", ((0, (1, (1, (1,)))),)), ("watch", (("sure", (0, 1)),)), ("leave", (("enough", ((0, 2),)),)),
        ):
            self.does(desk, word, *arguments)
            states.append((desk.profile, desk.watched))
            self.is_right(desk)
        for goal in (0, 11, 5, 9, 8, 11):
            while desk.many != goal:
                many = desk.many + (1 if desk.many < goal else -1)
                self.does(desk, "redo" if desk.many < goal else "undo")
                self.assertEqual((desk.profile, desk.watched), states[many])
                self.assertEqual(desk.many, many)
                self.is_right(desk)

    def test_a_new_deed_ends_what_can_be_redone(self):
        for word, arguments in (
            ("spend", (0, 1)), ("take", (0, 1)), ("record", (RUN,)), ("link", ((2, 3),)), ("cut", ((0, 1),)),
            ("watch", (("sure", (0, 1)),)), ("watch", (("fits",),)), ("leave", (("fits",),)),
        ):
            desk = desk_with(OPEN, [("fits",)])
            desk.spend(0, 5)
            desk.spend(0, 6)
            desk.undo()
            desk.undo()
            desk.redo()
            desk.undo()
            self.does(desk, word, *arguments)
            self.assertEqual(desk.many, 2)
            self.refuses(desk, NothingToUndo, "redo", "redo")
            desk.undo()
            self.assertEqual((desk.profile, desk.watched), (OPEN, (("fits",),)))
            self.assertEqual(redone(desk), 1)

    def test_undo_and_redo_are_never_undone(self):
        desk = Desk(OPEN)
        desk.spend(0, 2)
        desk.take(0, 13)
        desk.undo()
        desk.redo()
        desk.undo()
        self.assertEqual((desk.profile.own, desk.profile.whole, desk.many), ((2, 2, 5, 4), OPEN.whole, 1))
        desk.undo()
        self.assertEqual((desk.profile, desk.many), (OPEN, 0))
        desk.redo()
        desk.redo()
        self.assertEqual((desk.profile, desk.many), (LONGER, 2))

    def test_sixty_deeds(self):
        desk = Desk(Profile(FULL, (1, 0, 0, 0, 0), (1, 0, 0, 0, 0)))
        edges = [("ends", edge) for edge in FULL.edges[:8]]
        for question in edges:
            self.does(desk, "watch", question)
        for many in range(1, 53):
            self.does(desk, "spend" if many % 2 else "take", 0, many - many % 2)
        self.assertEqual(desk.many, 60)
        self.assertEqual(desk.profile.own[0], 50)
        self.assertEqual(desk.profile.whole[0], 52)
        self.assertEqual(desk.report(), ("none",) * 8)
        desk.undo()
        self.assertEqual(desk.profile.whole[0], 50)
        self.assertEqual((desk.many, desk.report()), (59, ("changed",) * 8))
        self.is_right(desk)

    def test_sixty_deeds_undo_and_redo_among_them(self):
        desk = desk_with(OPEN, EIGHT)
        for _ in range(26):
            desk.undo()
            desk.redo()
        self.assertEqual((desk.many, desk.watched), (8, EIGHT))
        self.assertEqual(desk.report(), ("kept",) * 7 + ("new",))
        self.is_right(desk)


class TestKept(Desks):
    def test_kept_and_renewed_and_changed(self):
        desk = desk_with(OPEN, EIGHT)
        before = shown(desk)
        # Nothing of what 0 passes changes, but the runs have other ticks; the marks' papers stay.
        desk.record((0, (2,) + RUN[1][1:]))
        self.assertEqual(desk.profile, LONGER)
        self.assertEqual(
            desk.report(), ("renewed", "renewed", "renewed", "renewed", "renewed", "kept", "kept", "renewed"))
        self.is_right(desk)
        for place, question in enumerate(EIGHT):
            self.assertEqual(desk.claim(question), before[4][place][0])
            self.assertEqual(desk.paper(question) == before[4][place][1], place in (5, 6))
        desk.record((0, (2, (1, (1,)))))
        self.assertEqual(
            desk.report(), ("renewed", "changed", "changed", "changed", "changed", "kept", "kept", "changed"))
        self.is_right(desk)

    def test_prices_that_hold_longer_than_those_told(self):
        # All is kept as long as it holds, though for this profile other papers would be told.
        found = 0
        runs = small_runs(SQUARE, 0, 10, (1, 3))[::331]
        for run in runs:
            desk = desk_with(OPEN, [])
            desk.record(run)
            for question in (all_questions(SQUARE, [(), ((0, 2),)])[::-1])[:8]:
                desk.watch(question)
            for edge in ((2, 3), (0, 3), (1, 3), (0, 2)):
                before = shown(desk)
                if edge in desk.profile.calls.edges:
                    desk.cut(edge)
                else:
                    desk.link(edge)
                for question, word, (claim, paper) in zip(desk.watched, desk.report(), before[4]):
                    if word == "kept":
                        self.assertEqual((desk.claim(question), desk.paper(question)), (claim, paper))
                        found += paper_of(desk.profile, question) != paper
                    elif claim is not None:
                        self.assertFalse(is_paper(desk.profile, claim, paper))
                    if word == "renewed":
                        self.assertEqual(desk.claim(question), claim)
                        self.assertNotEqual(desk.paper(question), paper)
                self.is_right(desk)
        self.assertGreater(found, 10)

    def test_a_paper_that_paper_of_would_not_tell(self):
        calls = Calls(3, ((0, 2), (1, 2)))
        profile = Profile(calls, (1, 0, 2), (3, 0, 2))
        desk = desk_with(profile, [("fits",), ("enough", ())])
        run, order = desk.paper(("fits",)), desk.paper(("enough", ()))
        desk.link((0, 1))
        # With function 1 reached there is one more edge, and one more edge behind it.
        self.assertEqual(desk.report(), ("kept", "renewed"))
        self.assertEqual(desk.paper(("fits",)), run)
        self.assertNotEqual(desk.paper(("enough", ())), order)
        desk.cut((1, 2))
        desk.undo()
        self.assertEqual(desk.report(), ("kept", "renewed"))
        self.is_right(desk)

    def test_questions_that_become_none_and_questions_again(self):
        desk = desk_with(OPEN, EIGHT)
        claims = [desk.claim(question) for question in EIGHT]
        desk.spend(0, 2)
        self.assertEqual(
            desk.report(), ("changed", "none", "none", "none", "none", "kept", "kept", "none"))
        for question in EIGHT:
            if question[0] in ("ends", "sure"):
                self.assertIsNone(desk.claim(question))
                self.assertIsNone(desk.paper(question))
        self.is_right(desk)
        desk.spend(2, 5)
        self.assertEqual(desk.report(), ("kept", "none", "none", "none", "none", "kept", "kept", "none"))
        desk.undo()
        self.assertEqual(desk.report(), ("kept", "none", "none", "none", "none", "kept", "kept", "none"))
        desk.undo()
        # What was kept is forgotten, so also the same claims come anew.
        self.assertEqual(
            desk.report(), ("changed", "changed", "changed", "changed", "changed", "kept", "kept", "changed"))
        self.assertEqual([desk.claim(question) for question in EIGHT], claims)
        self.is_right(desk)

    def test_edges_and_marks_that_are_cut(self):
        desk = desk_with(OPEN, EIGHT)
        desk.record((0, (3,)))
        desk.cut((0, 2))
        self.assertEqual(desk.report()[2], "none")
        self.assertEqual(desk.report()[6], "none")
        self.assertIsNone(desk.claim(("enough", ((0, 2),))))
        self.assertEqual(desk.claim(("enough", ())), ("enough", ()))
        self.assertEqual(desk.report()[5], "changed")
        self.assertEqual(desk.watched, EIGHT)
        self.refuses(desk, InvalidQuestion, EIGHT[2], "watch", EIGHT[2])
        self.is_right(desk)
        desk.link((0, 2))
        self.assertEqual(desk.report()[2], "changed")
        self.assertEqual(desk.report()[5:7], ("changed", "changed"))
        self.assertEqual(desk.report()[0], "kept")
        self.is_right(desk)

    def test_watched_by_undo_and_redo(self):
        desk = desk_with(OPEN, EIGHT[:3])
        desk.leave(EIGHT[1])
        desk.undo()
        self.assertEqual((desk.watched, desk.report()), (EIGHT[:3], ("kept", "new", "kept")))
        self.is_right(desk)
        desk.undo()
        self.assertEqual((desk.watched, desk.report()), (EIGHT[:2], ("kept", "kept")))
        desk.redo()
        self.assertEqual((desk.watched, desk.report()), (EIGHT[:3], ("kept", "kept", "new")))
        desk.redo()
        self.assertEqual((desk.watched, desk.report()), ((EIGHT[0], EIGHT[2]), ("kept", "kept")))
        self.is_right(desk)

    def test_new_also_as_none(self):
        desk = desk_with(OPEN, EIGHT[:3])
        desk.spend(0, 2)
        desk.leave(EIGHT[1])
        desk.undo()
        self.assertEqual((desk.watched, desk.report()), (EIGHT[:3], ("kept", "new", "none")))
        self.assertIsNone(desk.claim(EIGHT[1]))
        self.assertIsNone(desk.paper(EIGHT[1]))
        desk.undo()
        self.assertEqual(desk.report(), ("changed", "changed", "changed"))
        self.is_right(desk)
        desk.redo()
        desk.redo()
        self.assertEqual((desk.watched, desk.report()), ((EIGHT[0], EIGHT[2]), ("kept", "none")))
        desk.undo()
        self.assertEqual(desk.report(), ("kept", "new", "none"))

    def test_what_is_left_is_forgotten(self):
        desk = desk_with(OPEN, [("fits",)])
        desk.record(RUN)
        told = paper_of(OPEN, ("fits",))
        # This run is not what would be told, but it is what the cut leaves.
        desk.cut((1, 2))
        desk.link((1, 2))
        kept = desk.paper(("fits",))
        self.assertNotEqual(kept, told)
        self.assertEqual(desk.report(), ("kept",))
        desk.leave(("fits",))
        self.refuses(desk, Undefined, "watched", "leave", ("fits",))
        desk.watch(("fits",))
        self.assertEqual((desk.report(), desk.paper(("fits",))), (("new",), told))

    def test_undo_keeps_what_still_holds(self):
        desk = desk_with(OPEN, [("fits",)])
        told = desk.paper(("fits",))
        desk.cut((1, 2))
        self.assertEqual(desk.report(), ("renewed",))
        kept = desk.paper(("fits",))
        desk.undo()
        # The run without (1, 2) fits still; what was kept ahead of the cut does not come back.
        self.assertEqual((desk.report(), desk.paper(("fits",))), (("kept",), kept))
        self.assertNotEqual(kept, told)

    def test_claims_and_papers_of_any_value(self):
        desk = desk_with(OPEN, EIGHT)
        for value in any_values() + [OPEN, desk, None, ("bars",), ("ends", (0, 3)), ["fits"], ("ends", (False, 1))]:
            for look in (desk.claim, desk.paper):
                with self.assertRaises(Undefined) as held:
                    look(value)
                self.assertEqual(held.exception.what, "watched")
                self.assertIsInstance(held.exception, errors.TickError)
        self.assertEqual(desk.claim(tuple(["ends", tuple([0, 2])])), ("ends", (0, 2), 1, 5))


class TestDrawn(Desks):
    def led(self, desk, plain, word, arguments):
        """Lead the desk and the plain reckoning through a deed; tell whether it was let."""
        wrong = plain.refuses(word, arguments)
        if wrong is not None:
            self.refuses(desk, getattr(errors, wrong[0]), wrong[1], word, *arguments)
        else:
            self.does(desk, word, *arguments)
            plain.do(word, *arguments)
        profile, watched = plain.state()
        self.assertEqual((desk.profile, desk.watched, desk.many), (profile, watched, plain.place))
        self.assertEqual(desk.report(), plain.words)
        for question in watched:
            self.assertEqual((desk.claim(question), desk.paper(question)), plain.kept[question])
        return wrong is None

    def drawn(self, chance, profile, watched, goal):
        """A deed that chance has made; goal is a profile that some run fits."""
        calls = profile.calls
        words = ("spend", "take", "goal", "goal", "goal", "record", "link", "cut", "watch", "watch", "leave", "undo",
                 "undo", "redo", "redo", "wrong")
        word = chance.choice(words)
        pairs = [(g, f) for g in range(calls.functions) for f in range(g + 1, calls.functions)]
        if word in ("spend", "take"):
            return word, (chance.randrange(calls.functions), chance.randrange(4))
        if word == "goal":
            rows = [("spend", g, many) for g, many in enumerate(goal.own) if profile.own[g] != many]
            rows.extend(("take", g, many) for g, many in enumerate(goal.whole) if profile.whole[g] != many)
            word, *arguments = chance.choice(rows or [("spend", 0, goal.own[0])])
            return word, tuple(arguments)
        if word == "record":
            return word, (chance.choice(self.runs),)
        if word in ("link", "cut"):
            return word, (chance.choice(pairs or [(0, 1)]),)
        if word == "watch":
            question = chance.choice(all_questions(calls, some_of(calls.edges)[:9] + [calls.edges]))
            # No more than 8 questions are watched.
            return ("watch", (question,)) if len(watched) < 8 else ("leave", (watched[0],))
        if word == "leave":
            return word, (chance.choice(watched + (("fits",),)),)
        if word in ("undo", "redo"):
            return word, ()
        return chance.choice((
            ("spend", (True, 1)), ("spend", (0, 1000000)), ("take", (calls.functions, 1)), ("take", (0, None)),
            ("record", ((0, (0,)),)), ("link", ((1, 0),)), ("cut", ((False, 1),)), ("watch", (("bars",),)),
            ("leave", (("ends", (0, True)),)), ("watch", (("ends", (0, True)),)), ("leave", (None,)), ("cut", ("x",)),
        ))

    def rows(self, calls, seeds, deeds=60):
        counts = {}
        self.runs = small_runs(calls, 0, 10)[::7]
        for seed in seeds:
            chance = random.Random(seed)
            goal = profile_of(calls, chance.choice(self.runs))
            start = chance.choice((goal, Profile(calls, (0,) * calls.functions, (1,) * calls.functions)))
            desk, plain = Desk(start), PlainDesk(start)
            done = 0
            while done < deeds:
                profile, watched = plain.state()
                word, arguments = self.drawn(chance, profile, watched, goal)
                if self.led(desk, plain, word, arguments):
                    done += 1
                    for told in desk.report():
                        counts[told] = counts.get(told, 0) + 1
        return counts

    def test_four_functions(self):
        counts = self.rows(SQUARE, range(40))
        for word in ("new", "none", "kept", "renewed", "changed"):
            self.assertGreater(counts[word], 60)

    def test_other_calls(self):
        self.rows(DIAMOND, range(40, 48))
        self.rows(CHAIN, range(48, 56))
        self.rows(ONE, range(56, 60))

    def test_five_functions(self):
        self.rows(Calls(5, SQUARE.edges + ((2, 4), (3, 4))), range(60, 64), 30)

    def test_two_desks_by_turns(self):
        self.runs = small_runs(SQUARE, 0, 9)[::7]
        for seed in range(70, 76):
            chance = random.Random(seed)
            goals = [profile_of(SQUARE, run) for run in (RUN, (0, ((1, (1,)), (2, (1,)))))]
            pairs = [(Desk(goal), PlainDesk(goal), goal) for goal in goals]
            alone = [Desk(goal) for goal in goals]
            for _ in range(60):
                at = chance.randrange(2)
                desk, plain, goal = pairs[at]
                before = shown(pairs[1 - at][0])
                word, arguments = self.drawn(chance, *plain.state(), goal)
                if self.led(desk, plain, word, arguments):
                    self.does(alone[at], word, *arguments)
                self.assertEqual(shown(pairs[1 - at][0]), before)
                self.assertEqual(shown(alone[at]), shown(desk))
                self.assertIs(same_state(alone[at], desk), True)


class TestSameState(Desks):
    def same(self, one, other, told):
        self.assertIs(same_state(one, other), told)
        self.assertIs(same_state(other, one), told)

    def test_desks_led_alike(self):
        self.same(Desk(OPEN), Desk(Profile(Calls(4, SQUARE.edges), OPEN.own, OPEN.whole)), True)
        one, other = desk_with(OPEN, EIGHT), desk_with(OPEN, EIGHT)
        self.same(one, other, True)
        self.same(one, one, True)
        for desk in (one, other):
            desk.spend(0, 2)
        self.same(one, other, True)
        one.undo()
        self.same(one, other, False)
        other.undo()
        self.same(one, other, True)

    def test_other_profiles(self):
        for profile in (BARRED, LONGER, Profile(Calls(4, SQUARE.edges[1:]), OPEN.own, OPEN.whole)):
            self.same(Desk(OPEN), Desk(profile), False)
        one, other = Desk(OPEN), Desk(LONGER)
        one.record(OTHER_RUN)
        other.record(OTHER_RUN)
        # What was there ahead of the deeds is not asked for.
        self.same(one, other, True)

    def test_other_deeds_of_the_same_number(self):
        one, other = Desk(OPEN), Desk(OPEN)
        one.spend(0, 1)
        other.take(3, 4)
        self.same(one, other, True)
        one.cut((0, 1))
        one.undo()
        other.watch(("fits",))
        other.undo()
        self.same(one, other, True)

    def test_numbers_of_deeds(self):
        one, other = Desk(OPEN), Desk(OPEN)
        one.spend(0, 1)
        self.same(one, other, False)
        one.undo()
        # None can be undone now, but one can be redone.
        self.same(one, other, False)
        other.take(0, 12)
        self.same(one, other, False)
        other.undo()
        self.same(one, other, True)
        one.redo()
        self.same(one, other, False)

    def test_watched_questions_and_their_order(self):
        self.same(desk_with(OPEN, EIGHT[:2]), desk_with(OPEN, EIGHT[1::-1]), False)
        self.same(desk_with(OPEN, EIGHT[:2]), desk_with(OPEN, (EIGHT[0], EIGHT[2])), False)
        self.same(desk_with(OPEN, EIGHT[:1] * 2), desk_with(OPEN, EIGHT[:2]), False)
        self.same(desk_with(OPEN, EIGHT[:1] * 2), desk_with(OPEN, EIGHT[:1] * 2), True)

    def test_reports_are_not_asked_for(self):
        one, other = desk_with(OPEN, EIGHT[:1] * 2), desk_with(OPEN, EIGHT[:1])
        other.spend(0, 1)
        self.assertEqual((one.report(), other.report()), (("kept",), ("kept",)))
        self.same(one, other, True)
        one, other = desk_with(OPEN, EIGHT[:1]), Desk(OPEN)
        one.leave(EIGHT[0])
        one.undo()
        other.watch(EIGHT[0])
        other.watch(EIGHT[0])
        other.undo()
        self.assertNotEqual(one.report(), other.report())
        self.same(one, other, True)

    def test_papers(self):
        one, other = desk_with(OPEN, [("fits",)]), desk_with(OPEN, [("fits",)])
        for desk, word in ((one, "cut"), (other, "link")):
            getattr(desk, word)((1, 2) if word == "cut" else (2, 3))
            desk.undo()
        self.assertEqual((one.profile, one.watched, one.many), (other.profile, other.watched, other.many))
        self.assertEqual(one.claim(("fits",)), other.claim(("fits",)))
        self.assertNotEqual(one.paper(("fits",)), other.paper(("fits",)))
        self.same(one, other, False)

    def test_claims_that_are_none(self):
        one, other = desk_with(OPEN, EIGHT), desk_with(OPEN, EIGHT)
        for desk in (one, other):
            desk.spend(0, 9)
        self.same(one, other, True)
        self.assertIsNone(one.claim(EIGHT[1]))


if __name__ == "__main__":
    unittest.main()
