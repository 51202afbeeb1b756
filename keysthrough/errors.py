"""The errors of the program, one class for each kind of failure."""


class KeyTellError(ValueError):
    """The error of which all others are; it holds what is wrong, just as it was passed."""

    def __init__(self, value):
        self.value = value


class InvalidName(KeyTellError):
    """A name is not one to eight letters from a to z."""


class DoubleName(KeyTellError):
    """A name stands where it stood before."""


class UnknownTable(KeyTellError):
    """A book has no table of this name."""


class UnknownColumn(KeyTellError):
    """A table or a part of a question has no column of this name."""


class InvalidRule(KeyTellError):
    """A rule has no known form, or there is none at an index."""


class InvalidRow(KeyTellError):
    """A row has not as many values as its table has columns."""


class InvalidQuestion(KeyTellError):
    """A question, or a part of one, has no known form or is not sound."""


class BrokenRule(KeyTellError):
    """A rule, told by its index, would not hold."""


class NoSuchRow(KeyTellError):
    """A table has no row at an index."""


class NothingToUndo(KeyTellError):
    """No row that was put or taken is left to take back."""


class Unreadable(KeyTellError):
    """No book or no question has this text."""
