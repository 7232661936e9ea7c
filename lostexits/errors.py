"""The errors of the package, one class for each kind of failure."""


class TraceError(ValueError):
    """The base class of all errors of the package."""


class InvalidTrace(TraceError):
    """A value is not a trace."""


class InvalidCompletion(TraceError):
    """A value is not a valid completion of its trace."""


class InvalidFact(TraceError):
    """A value is not a fact about its trace."""


class InvalidFacts(TraceError):
    """A value is not a tuple of facts about its trace."""


class InvalidFrame(TraceError):
    """A value is not a frame of its trace."""


class InvalidMoment(TraceError):
    """A value is not a moment of its trace."""


class InvalidNumber(TraceError):
    """A value is not the number of a completion."""


class InvalidEvent(TraceError):
    """A value is not an event that may follow the events so far."""


class CapacityError(TraceError):
    """A trace or its facts are larger than an action accepts."""


class NothingToUndo(TraceError):
    """No action is left that could be undone."""


class InvalidText(TraceError):
    """A value is not the text of a trace and a completion."""

    def __init__(self, line):
        TraceError.__init__(self, f"the text is wrong at line {line}")
        self.line = line


class Conflict(TraceError):
    """No completion remains; the derivation shows why."""

    def __init__(self, derivation):
        TraceError.__init__(self, "no completion remains")
        self.derivation = derivation[:]
