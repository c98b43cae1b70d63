"""The errors of the program."""


class RulesError(ValueError):
    """The base class of all errors of the program."""


class BadValue(RulesError):
    """An argument has a wrong form."""

    def __init__(self, name):
        super().__init__(f"the argument {name} has a wrong form")
        self.name = name


class NotApplicable(RulesError):
    """A rule cannot be applied to the order that it meets."""

    def __init__(self, index, why):
        super().__init__(f"the rule {index} cannot be applied: {why}")
        self.index = index
        self.why = why


class TooLarge(RulesError):
    """Something has more items than are allowed."""

    def __init__(self, what):
        super().__init__(f"too large: {what}")
        self.what = what


class TextError(RulesError):
    """A text has a problem at one of its columns."""

    def __init__(self, column, words):
        super().__init__(f"column {column}: {words}")
        self.column = column
        self.words = words
