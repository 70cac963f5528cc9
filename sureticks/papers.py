"""Papers, from each of which can be seen that a claim is true."""

from sureticks.calls import is_edge
from sureticks.claims import answer_of, is_claim
from sureticks.ends import run_with, unlike
from sureticks.fitting import bar, bar_holds, some_run
from sureticks.kinds import is_pair
from sureticks.marking import alike, alike_holds, free_edges
from sureticks.pricing import at_least, at_least_holds, at_most, at_most_holds
from sureticks.profiles import fits
from sureticks.runs import passed


def paper_of(profile, question):
    """Return some paper for the answer to the question."""
    claim = answer_of(profile, question)
    word = claim[0]
    if word == "fits":
        return some_run(profile)
    if word == "bars":
        return bar(profile)
    # An edge, or marks.
    asked = claim[1]
    if word == "enough":
        return _peeled(free_edges(profile.calls, asked))
    if word == "short":
        return alike(profile.calls, asked)
    if word == "open":
        return unlike(profile, asked)
    # ("ends", edge, low, high) or ("sure", edge, many): a run for each number.
    runs = tuple([run_with(profile, asked, many) for many in claim[2:]])
    return runs + (at_least(profile, asked), at_most(profile, asked))


def claim_holds(profile, claim, paper):
    """Tell whether claim is a claim for the profile, and paper one for it; both may be any value."""
    if not is_claim(profile, claim):
        return False
    word = claim[0]
    if word == "fits":
        return fits(profile, paper)
    if word == "bars":
        return bar_holds(profile, paper)
    if word == "enough":
        return _order_holds(profile.calls, claim[1], paper)
    if word == "short":
        return alike_holds(profile.calls, claim[1], paper)
    if word == "open":
        return _unlike_holds(profile, claim[1], paper)
    return _numbers_hold(profile, claim[1], claim[2:], paper)


def _peeled(edges):
    """Return these edges, which have no ring, so that each is alone on one side among those behind it."""
    if len(edges) == 0:
        return ()
    # Without a ring, some edge always is alone.
    alone = [edge for edge in edges if _is_alone(edge, [other for other in edges if other != edge])]
    return (alone[0],) + _peeled([edge for edge in edges if edge != alone[0]])


def _order_holds(calls, marks, paper):
    """Tell whether paper is all reached edges that are no marks, in an order that shows that they have no ring."""
    if not isinstance(paper, tuple) or not all([is_edge(calls, edge) for edge in paper]):
        return False
    if sorted(paper) != free_edges(calls, marks):
        return False
    return all([_is_alone(edge, paper[place + 1:]) for place, edge in enumerate(paper)])


def _is_alone(edge, others):
    """Tell whether none of the others has the first function of edge, or none has its second one."""
    return edge[0] not in [g for g, _ in others] or edge[1] not in [f for _, f in others]


def _unlike_holds(profile, edge, paper):
    """Tell whether paper is a pair of runs that fit and pass unlike numbers of ticks along edge."""
    if not is_pair(paper) or not fits(profile, paper[0]) or not fits(profile, paper[1]):
        return False
    return _passed_along(profile, edge, paper[0]) != _passed_along(profile, edge, paper[1])


def _numbers_hold(profile, edge, numbers, paper):
    """Tell whether paper is a run that fits for each of the numbers, and prices for the first and the last."""
    if not isinstance(paper, tuple) or len(paper) != len(numbers) + 2:
        return False
    runs = paper[:-2]
    return (
        all([fits(profile, run) for run in runs])
        and all([_passed_along(profile, edge, run) == many for run, many in zip(runs, numbers)])
        and at_least_holds(profile, edge, numbers[0], paper[-2])
        and at_most_holds(profile, edge, numbers[-1], paper[-1])
    )


def _passed_along(profile, edge, run):
    """Return the number of ticks that pass along edge in a run that fits."""
    return passed(profile.calls, run)[profile.calls.edges.index(edge)]
