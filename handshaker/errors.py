"""The errors of the program, one class for each kind of failure."""


class HandshakerError(ValueError):
    """The base class of all errors of the program."""


class TextError(HandshakerError):
    """A text is no program: the first place at which this shows."""

    def __init__(self, line, column, reason):
        self.line = line
        self.column = column
        self.reason = reason


class TooLarge(HandshakerError):
    """Something has more than the named limit allows."""

    def __init__(self, limit):
        self.limit = limit


class Fault(HandshakerError):
    """Something cannot be evaluated or done."""

    def __init__(self, reason):
        self.reason = reason


class ImpossibleStep(HandshakerError):
    """A step that is not possible in a state."""

    def __init__(self, step):
        self.step = step


class UnknownThread(HandshakerError):
    """A number that is not that of a thread."""

    def __init__(self, thread):
        self.thread = thread


class InvalidLine(HandshakerError):
    """A line that a desk does not take."""

    def __init__(self, line):
        self.line = line


class InvalidCount(HandshakerError):
    """A number of something that is out of its range."""


class NotOwner(HandshakerError):
    """A stripe is owned by another thread, or by none."""


class InvalidVersion(HandshakerError):
    """A version that is not above the one of its stripe."""


class NotAtRest(HandshakerError):
    """A machine that has not come to rest has no end."""


class Refused(HandshakerError):
    """A line that a desk refuses, for a reason; the desk answers it."""

    def __init__(self, reason):
        self.reason = reason
