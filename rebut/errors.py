"""The errors of the package."""


class RebutError(ValueError):
    """The base class of all errors of the package."""


class BadFormula(RebutError):
    """Numbers or lists of which no formula can be made."""


class BadText(RebutError):
    """A text that is not of the wanted form."""


class WrongStep(RebutError):
    """A row with a step that is not right; `index` is the place of the first one."""

    def __init__(self, index):
        self.index = index


class BadQuestion(RebutError):
    """A value that is not a question."""


class HasModel(RebutError):
    """A formula that has a model, where one without is wanted."""


class NotRising(RebutError):
    """A division that is not rising."""


class BadLine(RebutError):
    """A text with a line that is not right; `line` is the number of the first one."""

    def __init__(self, line):
        self.line = line
