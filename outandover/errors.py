"""All errors of the package, in four families below StepError."""


class StepError(ValueError):
    """The base class of all errors."""


class PaperError(StepError):
    """A paper, a program, a packed rest or a guide does not hold."""


class ProgramError(StepError):
    """Something cannot be used with a program."""


class SessionError(StepError):
    """A session cannot do what it is told."""


class TextError(StepError):
    """A text or a row does not write anything."""


class InvalidPaper(PaperError):
    """A checker found a fault: which one, and where."""

    def __init__(self, word, at):
        self.word = word
        self.at = at


class NotUsable(ProgramError):
    """A choice, a name, a spot or the like is not usable here."""

    def __init__(self, word, at):
        self.word = word
        self.at = at


class InvalidEvent(SessionError):
    """An event is not possible, for this reason."""

    def __init__(self, event, reason):
        self.event = event
        self.reason = reason


class NothingToUndo(SessionError):
    """There is no event that could be taken back."""

    def __init__(self, steps):
        self.steps = steps


class BrokenOff(SessionError):
    """Commands broke off behind so many of them."""

    def __init__(self, count):
        self.count = count


class InvalidText(TextError):
    """The first row, and the first word of it, that is not possible."""

    def __init__(self, line, field):
        self.line = line
        self.field = field


class InvalidRow(TextError):
    """A desk does not know this row."""

    def __init__(self, row):
        self.row = row
