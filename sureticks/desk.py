"""A desk: a profile that is edited, and questions that are watched meanwhile."""

from sureticks.calls import Calls, is_edge, is_function
from sureticks.claims import answer_of, is_question, question_of
from sureticks.errors import InvalidEdge, InvalidNumber, NothingToUndo, Undefined
from sureticks.kinds import MOST_TICKS, is_integer_in, is_same, is_upward_pair, plain, replaced
from sureticks.papers import claim_holds, paper_of
from sureticks.profiles import Profile, profile_of

# What is kept for a question while it is none for the profile.
NOTHING = (None, None)


class Desk:
    """A profile and watched questions, for each of which a claim and a paper are kept.

    A state is a pair of a profile and watched questions. What is kept belongs to no
    state: it stays as long as it holds, also where deeds are undone.
    """

    def __init__(self, profile):
        self.profile = profile
        self.watched = ()
        self.many = 0
        # For each watched question its claim and its paper.
        self._kept = {}
        self._words = ()
        # The states ahead of the deeds that can be undone, the last one at the end.
        self._ahead = []
        # The states behind the deeds that can be redone, the next one at the end.
        self._behind = []

    def spend(self, function, many):
        """Let own of the function be many."""
        self._check_ticks(function, many)
        own = replaced(self.profile.own, function, many)
        self._do(Profile(self.profile.calls, own, self.profile.whole), self.watched)

    def take(self, function, many):
        """Let whole of the function be many."""
        self._check_ticks(function, many)
        whole = replaced(self.profile.whole, function, many)
        self._do(Profile(self.profile.calls, self.profile.own, whole), self.watched)

    def record(self, run):
        """Let own and whole be those of the run."""
        self._do(profile_of(self.profile.calls, run), self.watched)

    def link(self, edge):
        """Let the calls have the edge."""
        calls = self.profile.calls
        if not is_upward_pair(calls.functions, edge) or is_edge(calls, edge):
            raise InvalidEdge(edge)
        self._do(self._with_edges(sorted(calls.edges + (plain(edge),))), self.watched)

    def cut(self, edge):
        """Let the calls not have the edge."""
        calls = self.profile.calls
        if not is_edge(calls, edge):
            raise InvalidEdge(edge)
        self._do(self._with_edges([other for other in calls.edges if other != edge]), self.watched)

    def watch(self, question):
        """Watch the question from now on."""
        # The question that the answer answers is the same one, but surely plain.
        asked = question_of(self.profile, answer_of(self.profile, question))
        self._do(self.profile, self.watched if asked in self.watched else self.watched + (asked,))

    def leave(self, question):
        """Watch the question, which may be any value, no longer."""
        left = self._watched_one(question)
        self._do(self.profile, tuple([other for other in self.watched if other != left]))

    def undo(self):
        """Undo the last deed that is not undone."""
        if len(self._ahead) == 0:
            raise NothingToUndo("undo")
        profile, watched = self._ahead.pop()
        self._behind.append((self.profile, self.watched))
        self._turn_to(profile, watched)

    def redo(self):
        """Do the deed again that was undone last."""
        if len(self._behind) == 0:
            raise NothingToUndo("redo")
        profile, watched = self._behind.pop()
        self._ahead.append((self.profile, self.watched))
        self._turn_to(profile, watched)

    def claim(self, question):
        """Return the claim that is kept for the question, which may be any value."""
        return self._kept[self._watched_one(question)][0]

    def paper(self, question):
        """Return the paper that is kept for the question, which may be any value."""
        return self._kept[self._watched_one(question)][1]

    def report(self):
        """Return for each watched question a word for what the last deed made of it."""
        return self._words

    def _check_ticks(self, function, many):
        """Refuse what is no function, and what are no ticks for one; both may be any value."""
        if not is_function(self.profile.calls.functions, function):
            raise InvalidNumber(function)
        if not is_integer_in(many, 0, MOST_TICKS):
            raise InvalidNumber(many)

    def _with_edges(self, edges):
        """Return the profile with these edges instead of those that it has."""
        calls = Calls(self.profile.calls.functions, tuple(edges))
        return Profile(calls, self.profile.own, self.profile.whole)

    def _watched_one(self, value):
        """Return the watched question that value, which may be any, is."""
        for question in self.watched:
            if is_same(question, value):
                return question
        raise Undefined("watched")

    def _do(self, profile, watched):
        """Do a deed that is neither undo nor redo, and leads to this state."""
        self._ahead.append((self.profile, self.watched))
        self._behind = []
        self._turn_to(profile, watched)

    def _turn_to(self, profile, watched):
        """Be in this state from now on, and look at each watched question."""
        looks = [_look(profile, question, self._kept.get(question)) for question in watched]
        self.profile = profile
        self.watched = watched
        self.many = len(self._ahead)
        self._kept = {question: kept for question, (kept, _) in zip(watched, looks)}
        self._words = tuple([word for _, word in looks])

    def _whole_state(self):
        """Return all that two desks have alike that are in the same state."""
        kept = [self._kept[question] for question in self.watched]
        return (self.profile, self.watched, kept, self.many, len(self._behind))


def same_state(one, other):
    """Tell whether two desks have all alike but what their deeds were, and what the last one made."""
    return one._whole_state() == other._whole_state()


def _look(profile, question, kept):
    """Return what to keep for the question from now on, and the word for it.

    What was kept is None if the question was not watched ahead of this.
    """
    if not is_question(profile, question):
        return (NOTHING, "new" if kept is None else "none")
    if kept is not None and claim_holds(profile, kept[0], kept[1]):
        return (kept, "kept")
    claim = answer_of(profile, question)
    now = (claim, paper_of(profile, question))
    if kept is None:
        return (now, "new")
    return (now, "renewed" if claim == kept[0] else "changed")
