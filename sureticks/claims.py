"""Questions that are asked of a profile, and the claims that may answer them."""

from sureticks.calls import is_edge
from sureticks.ends import greatest, least
from sureticks.errors import InvalidClaim, InvalidQuestion
from sureticks.fitting import bar_of
from sureticks.kinds import is_number, plain
from sureticks.marking import are_marks, enough


def is_question(profile, value):
    """Tell whether value, which may be any, is a question for the profile."""
    if not isinstance(value, tuple) or len(value) == 0:
        return False
    word, rest = value[0], value[1:]
    if word == "fits":
        return len(rest) == 0
    if word == "enough":
        return len(rest) == 1 and are_marks(profile.calls, rest[0])
    return word in ("ends", "sure") and len(rest) == 1 and _may_be_asked(profile, rest[0])


def is_claim(profile, value):
    """Tell whether value, which may be any, is a claim for the profile."""
    if not isinstance(value, tuple) or len(value) == 0:
        return False
    word, rest = value[0], value[1:]
    if word in ("fits", "bars"):
        return len(rest) == 0
    if word in ("enough", "short"):
        return len(rest) == 1 and are_marks(profile.calls, rest[0])
    return _tells_of_edge(word, rest) and _may_be_asked(profile, rest[0])


def answer_of(profile, question):
    """Return the true one of the claims that may answer the question."""
    if not is_question(profile, question):
        raise InvalidQuestion(question)
    word = question[0]
    if word == "fits":
        return ("fits",) if bar_of(profile) is None else ("bars",)
    # An edge, or marks.
    asked = plain(question[1])
    if word == "enough":
        return ("enough", asked) if enough(profile.calls, asked) else ("short", asked)
    low, high = least(profile, asked), greatest(profile, asked)
    if word == "ends":
        return ("ends", asked, low, high)
    return ("sure", asked, low) if low == high else ("open", asked)


def question_of(profile, claim):
    """Return the question that the claim may answer."""
    if not is_claim(profile, claim):
        raise InvalidClaim(claim)
    word = claim[0]
    if word in ("fits", "bars"):
        return ("fits",)
    if word in ("enough", "short"):
        return ("enough", plain(claim[1]))
    return ("ends" if word == "ends" else "sure", plain(claim[1]))


def _may_be_asked(profile, value):
    """Tell whether value, which may be any, is an edge of a profile that some run fits."""
    return is_edge(profile.calls, value) and bar_of(profile) is None


def _tells_of_edge(word, rest):
    """Tell whether behind this word stands what may be an edge, and the numbers that belong there."""
    numbers = rest[1:]
    if len(rest) == 0 or not all([is_number(many) for many in numbers]):
        return False
    many = len(numbers)
    return (word == "ends" and many == 2) or (word == "sure" and many == 1) or (word == "open" and many == 0)
