"""All errors of the package, in four families."""


class ThreadError(ValueError):
    """The base class of all errors of the package."""


class PaperError(ThreadError):
    """The family of what checkers raise."""


class PatternError(ThreadError):
    """The family of what cannot be done with a pattern or another argument."""


class LiveError(ThreadError):
    """The family of what objects with a history raise."""


class TextError(ThreadError):
    """The family of what readers of texts raise."""


class InvalidPaper(PaperError):
    """A checker refuses its thing, by a word and a place."""

    def __init__(self, word, at):
        self.word = word
        self.at = at


class NotUsable(PatternError):
    """A parameter, or the element at a place in it, is not as stated."""

    def __init__(self, word, at):
        self.word = word
        self.at = at


class NotLayable(PatternError):
    """No laying is as it was asked for."""

    def __init__(self, word, at):
        self.word = word
        self.at = at


class NotSmooth(PatternError):
    """A crossing cannot be taken out in this manner."""

    def __init__(self, word):
        self.word = word


class InvalidEvent(LiveError):
    """An event cannot happen, for a reason."""

    def __init__(self, event, reason):
        self.event = event
        self.reason = reason


class NothingToUndo(LiveError):
    """More was to be taken back than the steps there are."""

    def __init__(self, steps):
        self.steps = steps


class InvalidText(TextError):
    """A field of a line of a text is not written as it must be."""

    def __init__(self, line, field):
        self.line = line
        self.field = field


class InvalidRow(TextError):
    """A text is well written, but what it tells is refused."""

    def __init__(self, row):
        self.row = row
