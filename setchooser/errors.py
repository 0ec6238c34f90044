"""The errors of the package."""


class ChooserError(ValueError):
    """What is passed has not the form that it should have."""


class InvalidName(ChooserError):
    """There should be a name."""


class InvalidBook(ChooserError):
    """There should be a book, or the ties of one."""


class InvalidNet(ChooserError):
    """There should be a net, or the applied ties of one."""


class InvalidChooser(ChooserError):
    """There should be a chooser of the book."""


class InvalidOperation(ChooserError):
    """The call is not possible with what is passed."""


class ParseError(ChooserError):
    """The line with this index is wrong."""

    def __init__(self, index):
        self.index = index


class InvalidNumber(IndexError):
    """The value is not one of the numbers that are possible there."""

    def __init__(self, value):
        self.value = value

    def __str__(self):
        return repr(self.value)


class UnknownName(KeyError):
    """The value is not the name of a tie of the book."""

    def __init__(self, name):
        self.name = name

    def __str__(self):
        return repr(self.name)


class TooMany(OverflowError):
    """There are more results than this limit."""

    def __init__(self, limit):
        self.limit = limit


class NothingToUndo(LookupError):
    """There are fewer calls than so many to undo, or to redo."""

    def __init__(self, many):
        self.many = many


class NoChooser(ArithmeticError):
    """The book with the ties of these names has no good chooser."""

    def __init__(self, which):
        self.which = which


class Emptied(ArithmeticError):
    """Striking leaves this unknown no value."""

    def __init__(self, unknown):
        self.unknown = unknown
