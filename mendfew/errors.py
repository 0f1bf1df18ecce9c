"""All errors of the package.

The fields are kept as they are and no text is made of them: they may be any values.
"""


class MendError(ValueError):
    """The base class of all errors."""


class PaperError(MendError):
    """The family of the errors of checkers."""


class BookError(MendError):
    """The family of the errors of parameters."""


class LiveError(MendError):
    """The family of the errors of live shelves."""


class TextError(MendError):
    """The family of the errors of readers."""


class InvalidPaper(PaperError):
    """A checker refuses a value: word tells why, at tells where."""

    def __init__(self, word, at):
        self.word = word
        self.at = at


class NotUsable(BookError):
    """A parameter is not as stated: word is its name."""

    def __init__(self, word, at):
        self.word = word
        self.at = at


class InvalidEvent(LiveError):
    """An event is refused for this reason."""

    def __init__(self, event, reason):
        self.event = event
        self.reason = reason


class NothingToUndo(LiveError):
    """There are no more than so many steps to take back."""

    def __init__(self, steps):
        self.steps = steps


class Broken(LiveError):
    """One of several events was refused, behind so many that were done."""

    def __init__(self, done):
        self.done = done


class InvalidText(TextError):
    """A text has a line that is not possible, at this field."""

    def __init__(self, line, field):
        self.line = line
        self.field = field


class InvalidRow(TextError):
    """A desk does not know this row."""

    def __init__(self, row):
        self.row = row
