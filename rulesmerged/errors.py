"""The errors that the package raises."""


class ApartError(ValueError):
    """What all errors of the package are."""


class ParseError(ApartError):
    """A text has no meaning; `line` tells where, as the index of a line."""

    def __init__(self, line):
        super().__init__(f"not understood at line {line}")
        self.line = line


class BookBroken(ApartError):
    """The rows of a copy do not keep the book."""


class DuplicateName(ApartError):
    """The name is taken."""


class InvalidBook(ApartError):
    """The object is no book of the schema."""


class InvalidCase(ApartError):
    """The objects are no case."""


class InvalidCondition(ApartError):
    """The object is no condition of the table."""


class InvalidCopies(ApartError):
    """The object is no list of copies of the base."""


class InvalidCopy(ApartError):
    """The object is no copy of the base."""


class InvalidHeld(ApartError):
    """The object is no list of different ones of the let kinds."""


class InvalidHistory(ApartError):
    """The object is no row history."""


class InvalidKinds(ApartError):
    """The object is no list of different kinds of changes."""


class InvalidLets(ApartError):
    """The object is no tuple of two lists of different kinds of changes."""


class InvalidLine(ApartError):
    """The object is no line of the shell."""


class InvalidMeeting(ApartError):
    """The object is no meeting."""


class InvalidName(ApartError):
    """The object is no name."""


class InvalidNames(ApartError):
    """The object is no list of different names of copies."""


class InvalidNumber(ApartError):
    """There is nothing with this number."""


class InvalidRows(ApartError):
    """The object is no rows of the schema."""


class InvalidSchema(ApartError):
    """The object makes no schema."""


class InvalidScript(ApartError):
    """The object is no script."""


class InvalidWays(ApartError):
    """The object is no ways of the schema."""


class MergeBroken(ApartError):
    """The rows of the merge do not keep the book."""


class NotLet(ApartError):
    """The copy would do a kind of changes that is not let to it."""


class NothingToUndo(ApartError):
    """There is no call that could be undone."""


class UnknownColumn(ApartError):
    """The table has no such column."""


class UnknownCopy(ApartError):
    """There is no copy of this name."""


class UnknownFlag(ApartError):
    """The table has no such flag."""


class UnknownRow(ApartError):
    """There is no such row."""


class UnknownStore(ApartError):
    """There is no store of this name."""


class UnknownTable(ApartError):
    """The schema has no such table."""
