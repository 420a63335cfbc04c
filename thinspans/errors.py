"""All errors of the package, in their families."""


class ThinError(ValueError):
    """The base class of all errors of the package."""


class PaperError(ThinError):
    """A paper is not accepted by its checker."""


class TraceError(ThinError):
    """A value does not fit its place, or a question is not told."""


class BookError(ThinError):
    """A book cannot do what it is asked for."""


class TextError(ThinError):
    """A text cannot be read."""


class InvalidPaper(PaperError):

    def __init__(self, word, at):
        self.word = word
        self.at = at


class NotUsable(TraceError):

    def __init__(self, word, at):
        self.word = word
        self.at = at


class NotTold(TraceError):

    def __init__(self, question):
        self.question = question


class InvalidEvent(BookError):

    def __init__(self, event, reason):
        self.event = event
        self.reason = reason


class NothingToUndo(BookError):

    def __init__(self, steps):
        self.steps = steps


class InvalidText(TextError):

    def __init__(self, line, field):
        self.line = line
        self.field = field


class InvalidRow(TextError):

    def __init__(self, row):
        self.row = row
