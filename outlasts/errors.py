"""The errors by which this program refuses what is handed in."""


class SpanError(ValueError):
    """Above all errors of this program."""


class NoBook(SpanError):
    """What is handed in is no book."""


class NoTime(SpanError):
    """What is handed in is no time."""


class NoShare(SpanError):
    """What is handed in is no share as wanted."""


class NoParts(SpanError):
    """What is handed in are no parts of the book."""


class NoPlain(SpanError):
    """The book is not plain."""


class NoKind(SpanError):
    """What is handed in is no kind of end."""


class NoMarks(SpanError):
    """What is handed in are no marks of the book."""


class NoWord(SpanError):
    """What is handed in is no weighting."""


class NoFull(SpanError):
    """The book is not full."""


class NoNumber(SpanError):
    """What is handed in is no number as wanted."""


class NoBand(SpanError):
    """What is handed in is no band."""


class NoName(SpanError):
    """What is handed in is no name, or is there, or isn't."""


class NoDay(SpanError):
    """What is handed in is no day, or none for the thing."""


class NoDeed(SpanError):
    """The deed can't be done as things stand."""


class NoFraction(SpanError):
    """What is handed in is no fraction."""


class NoText(SpanError):
    """What is handed in is no text of what is to be read."""


class NoLine(SpanError):
    """What is handed in is no line for a desk."""


class TooMany(SpanError):
    """There are so many, and at most that many are taken."""

    def __init__(self, many, most):
        self.many = many
        self.most = most
