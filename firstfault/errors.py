"""The errors: FaultError, four families under it, and each error under its family."""


class FaultError(ValueError):
    """The base of all errors."""


class PaperError(FaultError):
    """The family of what a checker refuses."""


class ProgramError(FaultError):
    """The family of what does not fit a program, a list or its items."""


class ServiceError(FaultError):
    """The family of what a service refuses."""


class TextError(FaultError):
    """The family of texts that write nothing."""


class InvalidPaper(PaperError):
    """A paper, or a program, breaks what the word tells, at this place."""

    def __init__(self, word, at):
        self.word = word
        self.at = at


class UnfitPart(ProgramError):
    """The part of an expression with this path is wrong."""

    def __init__(self, path):
        self.path = path


class UnknownKey(ProgramError):
    """The value is no key, or no place, of the program."""

    def __init__(self, key):
        self.key = key


class NoCheck(ProgramError):
    """The step with this key is no check."""

    def __init__(self, key):
        self.key = key


class InvalidState(ProgramError):
    """The value is no state of the items."""

    def __init__(self, state):
        self.state = state


class NotUsable(ProgramError):
    """An argument cannot be used, for what the word tells."""

    def __init__(self, word, at):
        self.word = word
        self.at = at


class InvalidEvent(ServiceError):
    """The event is not possible, for this reason."""

    def __init__(self, event, reason):
        self.event = event
        self.reason = reason


class NothingToUndo(ServiceError):
    """There are not this many events to take back."""

    def __init__(self, steps):
        self.steps = steps


class InvalidText(TextError):
    """A text is not possible from this word of this line on."""

    def __init__(self, line, field):
        self.line = line
        self.field = field


class InvalidRow(TextError):
    """The row is none that a desk answers."""

    def __init__(self, row):
        self.row = row
