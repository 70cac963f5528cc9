"""The errors of the package; each keeps what it is made with."""


class TickError(ValueError):
    """What all errors of the package stand under; it is never raised itself."""


class InvalidNumber(TickError):
    """A value that is not an integer that may stand in its place."""

    def __init__(self, value):
        super().__init__("not a number that may stand here")
        self.value = value


class InvalidEdges(TickError):
    """A value that is not an ascending tuple of edges."""

    def __init__(self, value):
        super().__init__("not an ascending tuple of edges")
        self.value = value


class InvalidEdge(TickError):
    """A value that is not an edge that may stand in its place."""

    def __init__(self, value):
        super().__init__("not an edge that may stand here")
        self.value = value


class InvalidRun(TickError):
    """A value that is not a run of the calls."""

    def __init__(self, value):
        super().__init__("not a run of these calls")
        self.value = value


class InvalidTrace(TickError):
    """A value that is not the trace of a run of the calls."""

    def __init__(self, value):
        super().__init__("not the trace of a run of these calls")
        self.value = value


class InvalidTicks(TickError):
    """A value that is not a tuple of ticks, one number for each function."""

    def __init__(self, value):
        super().__init__("not a tuple of ticks for each function")
        self.value = value


class InvalidMarks(TickError):
    """A value that is not an ascending tuple of edges of the calls."""

    def __init__(self, value):
        super().__init__("not marks of these calls")
        self.value = value


class InvalidLengths(TickError):
    """A value that is not a tuple of the lengths of pieces."""

    def __init__(self, value):
        super().__init__("not a tuple of lengths of pieces")
        self.value = value


class InvalidWaits(TickError):
    """A value that is not an ascending tuple of pairs of pieces."""

    def __init__(self, value):
        super().__init__("not an ascending tuple of pairs of pieces")
        self.value = value


class InvalidQuestion(TickError):
    """A value that is not a question for the profile."""

    def __init__(self, value):
        super().__init__("not a question for this profile")
        self.value = value


class InvalidClaim(TickError):
    """A value that is not a claim for the profile."""

    def __init__(self, value):
        super().__init__("not a claim for this profile")
        self.value = value


class Undefined(TickError):
    """There is nothing of the kind that was asked for."""

    def __init__(self, what):
        super().__init__("there is no such thing here")
        self.what = what


class NothingToUndo(TickError):
    """There is no deed that can be undone or redone."""

    def __init__(self, word):
        super().__init__("there is no deed for this")
        self.word = word
