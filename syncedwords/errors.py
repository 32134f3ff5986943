"""The errors that the program raises."""

# None of them hands a message of its own to Python: what an error was created
# with stays its message, and an error can be copied.


class CodeError(ValueError):
    """The base class of all errors of the program."""


class BadValue(CodeError):
    """An argument has a wrong form."""

    def __init__(self, name):
        self.name = name


class TooLarge(CodeError):
    """Something is larger than its bound."""

    def __init__(self, what):
        self.what = what


class NotPossible(CodeError):
    """What was asked for does not exist, or cannot be done now."""

    def __init__(self, why):
        self.why = why


class TextError(CodeError):
    """A text has a problem at a column."""

    def __init__(self, column, words):
        self.column = column
        self.words = words
