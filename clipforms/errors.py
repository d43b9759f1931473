"""The errors of the package: one class for each kind of refusal, all directly under ClipError."""


class ClipError(ValueError):
    """The base class of all errors."""


# The classes with fields do not call the base class's __init__: so Python keeps the
# arguments themselves, and the error is shown and copied as it was made.


class SyntaxProblem(ClipError):
    """A text breaks the rules of its form, first at this line and column (both from 1)."""

    def __init__(self, line, column):
        self.line = line
        self.column = column


class NotCarried(ClipError):
    """A content uses a feature that its form does not carry."""

    def __init__(self, feature):
        self.feature = feature


class NotMakable(ClipError):
    """No chain leads to an offered form, which the closed set of forms shows."""

    def __init__(self, form, closed):
        self.form = form
        self.closed = closed


class Gone(ClipError):
    """No text at hand gives the asked form, which the closed set of forms shows."""

    def __init__(self, closed):
        self.closed = closed


class TooMany(ClipError):
    """There are as many of a kind as the limit allows."""

    def __init__(self, limit):
        self.limit = limit


class NoContent(ClipError):
    """What should be a content is none."""


class NoForm(ClipError):
    """What should be a form, or the name of one, is none."""


class NoMaker(ClipError):
    """What should be a maker is none."""


class NoProgram(ClipError):
    """There is no such living program, or a program cannot have this name."""


class NoDocument(ClipError):
    """There is no such open document."""


class NoEntry(ClipError):
    """There is no such entry."""


class NoPlace(ClipError):
    """There is no such line, cell, offset or range."""


class NoMark(ClipError):
    """There is no such mark to go back to."""


class NotOffered(ClipError):
    """The entry does not offer the form."""


class NameTaken(ClipError):
    """Something else has this name."""


class TooLarge(ClipError):
    """The result would be no content."""


class NothingToUndo(ClipError):
    """There is no edit that could be undone or redone."""


class EditedSince(ClipError):
    """The other document of a move was edited since, or is closed."""


class HistoryFull(ClipError):
    """The history is full, and all of its entries are pinned."""


class InvalidCommand(ClipError):
    """A line is no command."""


class NoDesk(ClipError):
    """There is no such desk, or a desk cannot have this name."""


class NoLink(ClipError):
    """There is no such link, or there cannot be one."""
