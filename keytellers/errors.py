"""The errors of the package, each with the value that is not as it has to be."""


class TellError(ValueError):
    """The base of all errors of the package."""

    def __init__(self, value):
        # No message is made of the value: Python refuses to write out integers of some thousand digits.
        self.value = value


class InvalidBook(TellError):
    """It is no book, or no count of cells."""


class InvalidWord(TellError):
    """It is no word, or no list or tuple of words."""


class InvalidNumber(TellError):
    """It is no integer, or one out of bounds."""


class InvalidKey(TellError):
    """It is no key of the book, or one that can not stand here."""


class InvalidCell(TellError):
    """It is no cell of the book, or no tuple of cells."""


class InvalidRow(TellError):
    """It is no row of the book."""


class InvalidLot(TellError):
    """It is no lot of keys of the book."""


class InvalidTable(TellError):
    """It is no table of the book."""


class InvalidValues(TellError):
    """They are no values of the book, or no numbers."""


class InvalidRoad(TellError):
    """It is no road."""


class InvalidSeats(TellError):
    """They are no seats."""


class NotFree(TellError):
    """The lot has a closed lot among its keys."""


class NoTable(TellError):
    """The values of this closed lot do not add up to 0."""


class NoSeats(TellError):
    """This lot is short."""


class InvalidPlacing(TellError):
    """It is no placing of the book."""


class InvalidChain(TellError):
    """It is no chain."""


class InvalidMixing(TellError):
    """It is no mixing."""


class InvalidFilter(TellError):
    """It is no filter."""


class InvalidName(TellError):
    """It is no name."""


class HasCore(TellError):
    """This lot of keys is left when none can be taken off."""


class NotGood(TellError):
    """The table chooses some cell twice."""


class UnknownName(TellError):
    """No book has this name."""


class NothingToUndo(TellError):
    """No change is left to take back."""


class Unreadable(TellError):
    """The line of this number can not stand there."""


class Unorderly(TellError):
    """The text is no order."""
