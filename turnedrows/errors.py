"""The errors that the program raises."""


class TurnedrowsError(ValueError):
    """The base class of all errors that the program raises."""


class InvalidRow(TurnedrowsError):
    """A value is no row of its kind, or rows differ in their number of pieces."""


class InvalidMove(TurnedrowsError):
    """A move cannot be done."""


class InvalidBody(TurnedrowsError):
    """A value is no body, or bodies differ in their number of pieces."""


class InvalidTree(TurnedrowsError):
    """A value is no tree over so many bodies."""


class InvalidText(TurnedrowsError):
    """A text cannot be read."""


class InvalidName(TurnedrowsError):
    """A string is no name of a body in a book."""


class UnknownName(TurnedrowsError):
    """No body of a book has the name."""


class TooMany(TurnedrowsError):
    """A book would keep too many names."""


class OutOfRange(TurnedrowsError):
    """A number or a kind is none that the function takes."""
