"""What the tests tell by themselves of claims, papers and desks: by the words of [17] to [20]."""

import functools

from sureticks.calls import Calls
from sureticks.papers import paper_of
from sureticks.profiles import Profile
from sureticks.runs import is_run
from tests.samples import own_of_tree, passed_of_tree, whole_of_tree
from tests.searches import (
    all_bar_values, are_enough, are_marks, is_alike, is_bar, is_number, reached_edges, runs_by_sums, show_at_least,
    show_at_most, some_of, supplies_of,
)


def numbers_of(value):
    return is_number(value) and value >= 0


def flows_of(profile):
    """All that can be passed along the edges so that each supply and each demand is just met.

    This is a search through all numbers for all edges; the tests look once more whether
    it finds what all runs pass.
    """
    calls, supplies = profile.calls, supplies_of(profile)
    if min(supplies) < 0:
        return ()
    return tuple(_flows(calls.edges, tuple(supplies), (0,) + profile.whole[1:]))


@functools.lru_cache(maxsize=None)
def _flows(edges, supplies, demands):
    if not edges:
        return ((),) if not any(supplies) and not any(demands) else ()
    (g, f), rest = edges[0], edges[1:]
    found = []
    for many in range(min(supplies[g], demands[f]) + 1):
        left = supplies[:g] + (supplies[g] - many,) + supplies[g + 1:]
        wanted = demands[:f] + (demands[f] - many,) + demands[f + 1:]
        # What no edge behind this one can pass on need not be looked at.
        if all(any(edge[0] == h for edge in rest) or not left[h] for h in range(len(left))):
            found.extend((many,) + flow for flow in _flows(rest, left, wanted))
    return tuple(found)


@functools.lru_cache(maxsize=None)
def _fits_some(functions, edges, own, whole):
    profile = Profile(Calls(functions, edges), own, whole)
    return not any(is_bar(profile, value) for value in all_bar_values(functions))


def fits_some(profile):
    """Whether some run fits, told by a search through all bars, as numbers may be large."""
    return _fits_some(profile.calls.functions, profile.calls.edges, profile.own, profile.whole)


def ends_of(profile, edge):
    """The least and the greatest number for the edge, told by a search."""
    numbers = [flow[profile.calls.edges.index(edge)] for flow in flows_of(profile)]
    return min(numbers), max(numbers)


@functools.lru_cache(maxsize=None)
def _sums(functions, edges):
    return runs_by_sums(Calls(functions, edges), 2 if functions < 5 else 3)


def enough_by_search(calls, marks):
    """Whether marks are enough, told by a search through runs of as many ticks as are needed."""
    return are_enough(calls, marks, _sums(calls.functions, calls.edges))


def has_bool(value):
    return "True" in repr(value) or "False" in repr(value)


def is_edge_of(calls, value):
    return isinstance(value, tuple) and value in calls.edges and not has_bool(value)


def is_asked(profile, value):
    """Whether value is a question for the profile, by the words of point [17]."""
    if not isinstance(value, tuple) or len(value) not in (1, 2):
        return False
    if len(value) == 1:
        return value == ("fits",)
    if value[0] == "enough":
        return are_marks(profile.calls, value[1])
    return value[0] in ("ends", "sure") and is_edge_of(profile.calls, value[1]) and fits_some(profile)


def asked_by(profile, value):
    """The question that value, which may be any, may answer as a claim; None if it is no claim."""
    if not isinstance(value, tuple) or not value:
        return None
    word, numbers = value[0], value[2:]
    if len(value) == 1:
        return ("fits",) if word in ("fits", "bars") else None
    if word in ("enough", "short"):
        return ("enough", value[1]) if are_marks(profile.calls, value[1]) and not numbers else None
    wanted = {2: "ends", 1: "sure", 0: "open"}.get(len(numbers))
    if word != wanted or not all(numbers_of(many) for many in numbers):
        return None
    question = ("ends" if word == "ends" else "sure", value[1])
    return question if is_asked(profile, question) else None


def true_claim(profile, question):
    """The answer, told by a search; None if this is no question for the profile."""
    if not is_asked(profile, question):
        return None
    word, asked = question[0], question[1:]
    if word == "fits":
        return ("fits",) if fits_some(profile) else ("bars",)
    if word == "enough":
        return ("enough" if enough_by_search(profile.calls, asked[0]) else "short",) + asked
    low, high = ends_of(profile, asked[0])
    if word == "ends":
        return ("ends",) + asked + (low, high)
    return ("sure",) + asked + (low,) if low == high else ("open",) + asked


def fits_by_tree(profile, run):
    if not is_run(profile.calls, run):
        return False
    return (own_of_tree(profile.calls, run), whole_of_tree(profile.calls, run)) == (profile.own, profile.whole)


def passes(profile, run, edge, many):
    """Whether run is one that fits and passes so many ticks along the edge."""
    if not fits_by_tree(profile, run):
        return False
    return passed_of_tree(profile.calls, run)[profile.calls.edges.index(edge)] == many


def is_order(calls, marks, value):
    """Whether value is all reached edges that are no marks, in an order that point [18] allows."""
    if not isinstance(value, tuple) or not all(is_edge_of(calls, edge) for edge in value):
        return False
    if sorted(value) != [edge for edge in reached_edges(calls) if edge not in marks]:
        return False
    for place, (g, f) in enumerate(value):
        behind = value[place + 1:]
        if any(edge[0] == g for edge in behind) and any(edge[1] == f for edge in behind):
            return False
    return True


def is_paper(profile, claim, value):
    """Whether claim is a claim for the profile and value a paper for it, by the words of point [18]."""
    if asked_by(profile, claim) is None:
        return False
    word = claim[0]
    if word == "fits":
        return fits_by_tree(profile, value)
    if word == "bars":
        return is_bar(profile, value)
    if word == "enough":
        return is_order(profile.calls, claim[1], value)
    if word == "short":
        return is_alike(profile.calls, claim[1], value)
    if not isinstance(value, tuple) or len(value) != {"ends": 4, "sure": 3, "open": 2}[word]:
        return False
    edge = claim[1]
    if word == "open":
        if not all(fits_by_tree(profile, run) for run in value):
            return False
        place = profile.calls.edges.index(edge)
        return len({passed_of_tree(profile.calls, run)[place] for run in value}) == 2
    low, high = claim[2], claim[-1]
    runs = list(zip(value, (low, high) if word == "ends" else (low,)))
    return (
        all(passes(profile, run, edge, many) for run, many in runs)
        and show_at_least(profile, edge, low, value[-2])
        and show_at_most(profile, edge, high, value[-1])
    )


def all_questions(calls, marks=None):
    """All questions that may be asked of a profile of these calls, for these marks or all."""
    found = [("fits",)]
    for edge in calls.edges:
        found.extend([("ends", edge), ("sure", edge)])
    return found + [("enough", row) for row in (some_of(calls.edges) if marks is None else marks)]


def claims_for(question, top):
    """All claims that may answer the question, with numbers up to top."""
    word, asked = question[0], question[1:]
    if word == "fits":
        return [("fits",), ("bars",)]
    if word == "enough":
        return [("enough",) + asked, ("short",) + asked]
    numbers = range(top + 1)
    if word == "ends":
        return [("ends",) + asked + (low, high) for low in numbers for high in numbers]
    return [("sure",) + asked + (many,) for many in numbers] + [("open",) + asked]


class PlainDesk:
    """A desk that does all deeds that are not undone anew, each time from the first profile on."""

    def __init__(self, profile):
        self.first = profile
        self.deeds = []
        self.place = 0
        self.kept = {}
        self.words = ()

    def state(self):
        """Profile and watched questions behind the deeds that are not undone."""
        profile, watched = self.first, ()
        for word, arguments in self.deeds[:self.place]:
            profile, watched = after(profile, watched, word, arguments)
        return profile, watched

    def refuses(self, word, arguments):
        """What is refused of a deed, as the name of the error and what it keeps; None if it is let."""
        profile, watched = self.state()
        functions, edges = profile.calls.functions, profile.calls.edges
        if word in ("undo", "redo"):
            there = self.place if word == "undo" else len(self.deeds) - self.place
            return None if there else ("NothingToUndo", word)
        value = arguments[0]
        if word in ("spend", "take"):
            if not (numbers_of(value) and value < functions):
                return ("InvalidNumber", value)
            many = arguments[1]
            return None if numbers_of(many) and many <= 999999 else ("InvalidNumber", many)
        if word == "record":
            return None if is_run(profile.calls, value) else ("InvalidRun", value)
        if word == "link":
            pairs = [(g, f) for f in range(functions) for g in range(f)]
            fine = isinstance(value, tuple) and value in pairs and value not in edges and not has_bool(value)
            return None if fine else ("InvalidEdge", value)
        if word == "cut":
            return None if is_edge_of(profile.calls, value) else ("InvalidEdge", value)
        if word == "watch":
            return None if is_asked(profile, value) else ("InvalidQuestion", value)
        return None if value in watched and not has_bool(value) else ("Undefined", "watched")

    def do(self, word, *arguments):
        """Do a deed that is not refused."""
        before = self.state()[1]
        if word == "undo":
            self.place -= 1
        elif word == "redo":
            self.place += 1
        else:
            self.deeds = self.deeds[:self.place] + [(word, arguments)]
            self.place += 1
        profile, watched = self.state()
        looks = {question: self.look(profile, question, before) for question in watched}
        self.kept = {question: kept for question, (kept, _) in looks.items()}
        self.words = tuple(word for _, word in looks.values())

    def look(self, profile, question, before):
        """What is kept for the question behind a deed, and the word for it."""
        claim, paper = self.kept[question] if question in before else (None, None)
        true = true_claim(profile, question)
        now = (true, None if true is None else paper_of(profile, question))
        if question not in before:
            return now, "new"
        if true is None:
            return now, "none"
        if claim is not None and is_paper(profile, claim, paper):
            return (claim, paper), "kept"
        return now, "renewed" if claim == true else "changed"


def after(profile, watched, word, arguments):
    """Profile and watched questions behind a deed."""
    calls, own, whole = profile.calls, list(profile.own), list(profile.whole)
    value = arguments[0]
    edges = calls.edges
    if word == "spend":
        own[value] = arguments[1]
    elif word == "take":
        whole[value] = arguments[1]
    elif word == "record":
        own, whole = own_of_tree(calls, value), whole_of_tree(calls, value)
    elif word == "link":
        edges = tuple(sorted(set(edges) | {value}))
    elif word == "cut":
        edges = tuple(sorted(set(edges) - {value}))
    elif word == "watch":
        watched = watched if value in watched else watched + (value,)
    else:
        watched = tuple(question for question in watched if question != value)
    return Profile(Calls(calls.functions, edges), tuple(own), tuple(whole)), watched
