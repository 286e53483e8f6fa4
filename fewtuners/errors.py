"""All exceptions of the package."""


class RecorderError(ValueError):
    """The base class of all exceptions of the package."""


class InvalidSending(RecorderError):
    """A part of a sending is out of range."""

    def __init__(self, part):
        self.part = part


class InvalidListing(RecorderError):
    """A name in a listing is no word, or one too many."""

    def __init__(self, name):
        self.name = name


class UnknownName(RecorderError):
    """A listing has no sending with a name."""


class InvalidRule(RecorderError):
    """A part of a rule is out of range."""

    def __init__(self, part):
        self.part = part


class InvalidBook(RecorderError):
    """A book would have too many rules."""


class UnknownEpisode(RecorderError):
    """An episode is none of those that a function can answer for."""


class NotWished(RecorderError):
    """No rule wishes for the episode of a sending."""


class InvalidNumber(RecorderError):
    """A number is out of range."""


class InvalidDelay(RecorderError):
    """A delay is of no sending, or not one that the sending can have."""

    def __init__(self, name):
        self.name = name


class InvalidPool(RecorderError):
    """A pool has too many rules."""


class InvalidLog(RecorderError):
    """The receivers in a tuple of a log are out of range."""

    def __init__(self, index):
        self.index = index


class NoFit(RecorderError):
    """No tuple of rules fits a log."""


class InvalidBooks(RecorderError):
    """There are no books, or too many."""

    def __init__(self, index):
        self.index = index


class UnknownChannel(RecorderError):
    """A listing has no sending on a channel."""


class NoDelay(RecorderError):
    """No delay would be possible any more."""


class InvalidRows(RecorderError):
    """The receivers in a row are out of range, or there are too many rows."""

    def __init__(self, index):
        self.index = index


class InvalidSpan(RecorderError):
    """A span is out of range, or does not go to a later minute."""


class DoubleName(RecorderError):
    """A listing has a sending with a name already."""


class InvalidName(RecorderError):
    """The name of a mark is no word."""


class UnknownMark(RecorderError):
    """There is no mark with a name."""


class InvalidOperation(RecorderError):
    """An operation is not a tuple of a method's name and its arguments."""

    def __init__(self, index):
        self.index = index


class InvalidRow(RecorderError):
    """A word in the text of a book and a listing is wrong."""

    def __init__(self, row, word):
        self.row = row
        self.word = word


class DecodeError(RecorderError):
    """An item in the code of a listing is wrong."""

    def __init__(self, offset):
        self.offset = offset


class DaybookError(RecorderError):
    """A word or an entry of a daybook is wrong."""

    def __init__(self, row, word):
        self.row = row
        self.word = word
