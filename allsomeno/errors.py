"""The errors that the program raises."""


class LogicError(ValueError):
    """The base class of all errors of the program."""


class BadValue(LogicError):
    """An argument has a wrong form; `name` tells which one."""

    def __init__(self, name):
        LogicError.__init__(self, f"wrong argument: {name}")
        self.name = name


class TooLarge(LogicError):
    """Something goes beyond a bound; `what` tells what."""

    def __init__(self, what):
        LogicError.__init__(self, f"too large: {what}")
        self.what = what


class NotPossible(LogicError):
    """What is asked cannot be done with these arguments; `why` tells the reason."""

    def __init__(self, why):
        LogicError.__init__(self, f"not possible: {why}")
        self.why = why


class TextError(LogicError):
    """A text has a problem, told by `words`, at the `column`, counted from 1."""

    def __init__(self, column, words):
        LogicError.__init__(self, f"column {column}: {words}")
        self.column = column
        self.words = words
