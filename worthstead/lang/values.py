"""The values of programs: ratios, booleans, strings, None for GONE, functions, and objects of the package."""

from worthstead.errors import TooMany
from worthstead.exact.ratios import is_ratio
from worthstead.fits.fits import Fit
from worthstead.formulas.formulas import Formula
from worthstead.lang.faults import Fault
from worthstead.models.models import Model
from worthstead.plans.plans import Plan
from worthstead.tables.tables import Table

MOST_TEXT = 400


class Written:
    """A written function: the number of its block, and the place in which it was made."""

    def __init__(self, number, home):
        self.number = number
        self.home = home


class Packaged:
    """A package function, by its name."""

    def __init__(self, called):
        self.called = called


class Late:
    """What is reckoned later: the number of its block, and the place for it."""

    def __init__(self, number, home):
        self.number = number
        self.home = home


def kind_of(value):
    """The word for what a value is."""
    if value is None:
        return "gone"
    if is_ratio(value):
        return "ratio"
    if isinstance(value, bool):
        return "truth"
    if isinstance(value, str):
        return "text"
    if isinstance(value, (Written, Packaged)):
        return "function"
    return "late" if isinstance(value, Late) else kind_of_thing(value)


def kind_of_thing(value):
    """The word for what an object of the other parts of the package is."""
    if isinstance(value, Formula):
        return "formula"
    if isinstance(value, Table):
        return "table"
    if isinstance(value, Plan):
        return "plan"
    return "model" if isinstance(value, Model) else "fit"


def text_of_value(value, texts):
    """The text of a value; the texts of written functions are told by the numbers of their blocks."""
    if value is None:
        return "GONE"
    if isinstance(value, bool):
        return "TRUE" if value else "FALSE"
    if isinstance(value, (Written, Late)):
        return texts[value.number]
    if isinstance(value, Packaged):
        return value.called
    if isinstance(value, Model):
        return f"model of {len(value)} columns"
    if isinstance(value, Fit):
        return f"fit of {len(value.model)} columns"
    return str(value)


def checked_text(text):
    """A text, unless it is too long for a value."""
    if len(text) > MOST_TEXT:
        raise Fault("great", "")
    return text


def operated(sign, operands):
    """The value of an operator with one operand or two."""
    if sign == "==":
        return is_equal(operands[0], operands[1])
    kinds = [kind_of(value) for value in operands]
    if sign in ("&", "|", "!"):
        check_alike(kinds, "truth")
        return truth_of(sign, operands)
    if sign == "+" and kinds[0] == "text":
        check_alike(kinds, "text")
        return checked_text(f"{operands[0]}{operands[1]}")
    check_alike(kinds, "ratio")
    if len(operands) == 1:
        return -operands[0]
    try:
        return reckoned(sign, operands[0], operands[1])
    except TooMany as e:
        raise Fault("TooMany", str(e.limit))
    except ZeroDivisionError:
        raise Fault("zero", "")


def check_alike(kinds, wanted):
    """Raise a fault unless all kinds are the one that is wanted."""
    if not all([kind == wanted for kind in kinds]):
        raise Fault("kind", "")


def is_equal(one, other):
    """Whether two values are equal."""
    kinds = [kind_of(one), kind_of(other)]
    if any([kind in ("function", "model", "fit", "late") for kind in kinds]):
        raise Fault("kind", "")
    return kinds[0] == kinds[1] and one == other


def truth_of(sign, operands):
    """What a sign makes of truths."""
    if sign == "!":
        return not operands[0]
    return all(operands) if sign == "&" else any(operands)


def reckoned(sign, one, other):
    """What a sign makes of two ratios."""
    if sign == "+":
        return one + other
    if sign == "-":
        return one - other
    if sign == "*":
        return one * other
    if sign == "/":
        return one.over(other)
    return one.is_less(other) if sign == "<" else not other.is_less(one)
