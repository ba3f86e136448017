"""The errors of the program."""


class CutError(ValueError):
    """The base class of all errors of the program."""


class BadValue(CutError):
    """An argument has a wrong form."""

    def __init__(self, name):
        self.name = name


class TooLarge(CutError):
    """There would be too much of something."""

    def __init__(self, what):
        self.what = what


class NotPossible(CutError):
    """A command has a right form, but cannot be done."""

    def __init__(self, why):
        self.why = why


class TextError(CutError):
    """A text of a word list or of a cut has a problem."""

    def __init__(self, column, words):
        self.column = column
        self.words = words
