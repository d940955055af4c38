"""The errors of the package."""


class WorthError(ValueError):
    """A value that is not what the document asks for."""


class InvalidRatio(WorthError):
    """No ratio, or no tuple of ratios."""


class InvalidRows(WorthError):
    """No rows, or no row."""


class InvalidSpace(WorthError):
    """No space, or one of another width."""


class InvalidTable(WorthError):
    """No table, or no column."""


class InvalidFormula(WorthError):
    """No formula, no term, or no kinds."""


class InvalidModel(WorthError):
    """No model."""


class InvalidWords(WorthError):
    """No word, or no words."""


class InvalidPlan(WorthError):
    """No plan."""


class InvalidLabels(WorthError):
    """No labels."""


class InvalidTree(WorthError):
    """No tree, or no program."""


class InvalidCode(WorthError):
    """No code, or no sound one."""


class InvalidOperation(WorthError):
    """An operation that cannot be done as it was asked for."""


class ParseError(WorthError):
    """A text that cannot be read, with the spot where it goes wrong."""

    def __init__(self, spot):
        self.spot = spot


class InvalidNumber(IndexError):
    """No integer, or one out of bounds."""

    def __init__(self, given):
        self.given = given


class UnknownName(KeyError):
    """A name that nothing has."""

    def __init__(self, wanted):
        self.wanted = wanted


class NothingToUndo(LookupError):
    """Fewer steps than are to be taken back, or done again."""

    def __init__(self, many):
        self.many = many


class TooMany(OverflowError):
    """More than the limit that is kept."""

    def __init__(self, limit):
        self.limit = limit


class Refused(ArithmeticError):
    """What is refused for a reason, a tuple that begins with a word."""

    def __init__(self, reason):
        self.reason = reason
