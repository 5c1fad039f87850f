"""The errors of the package. Each keeps the very objects that it was given."""


class BagsError(ValueError):
    """The base class of all errors."""


class PaperError(BagsError):
    """The family of errors about papers."""


class HistoryError(BagsError):
    """The family of errors about histories and worlds."""


class TextError(BagsError):
    """The family of errors about texts."""


class InvalidPaper(PaperError):
    """A value is not the paper that a checker asks for."""

    def __init__(self, word, at):
        self.word = word
        self.at = at


class UnknownName(HistoryError):
    """A name is not a place of the history."""

    def __init__(self, name):
        self.name = name


class MomentOutOfRange(HistoryError):
    """A moment is greater than the number of events."""

    def __init__(self, moment):
        self.moment = moment


class NotAReport(HistoryError):
    """A position is not the index of a report."""

    def __init__(self, position):
        self.position = position


class InvalidEvent(HistoryError):
    """A row is not possible in a world."""

    def __init__(self, event, reason):
        self.event = event
        self.reason = reason


class NothingToUndo(HistoryError):
    """There is no row that could be removed."""

    def __init__(self, steps):
        self.steps = steps


class InvalidText(TextError):
    """A line of a text is not valid."""

    def __init__(self, line, field):
        self.line = line
        self.field = field


class InvalidRow(TextError):
    """A desk does not know the string that was said."""

    def __init__(self, row):
        self.row = row
