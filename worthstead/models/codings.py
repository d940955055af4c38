"""Codings: ratios for the levels of factors."""

from worthstead.errors import InvalidModel, InvalidNumber
from worthstead.exact.ratios import Ratio, is_between
from worthstead.names import is_name
from worthstead.tables.columns import FEWEST_LEVELS, MAX_LEVELS

CODINGS = ("first", "last", "sum", "steps")
USUAL = "first"
# These codings tell all levels but the first one, the others all but the last one.
WITHOUT_FIRST = ("first", "steps")


def coding_row(word, total, level):
    """The ratios for all told levels at a level of a factor with so many levels."""
    if word not in CODINGS:
        raise InvalidModel("this is no coding")
    if not is_between(total, FEWEST_LEVELS, MAX_LEVELS):
        raise InvalidNumber(total)
    if not is_between(level, 0, total - 1):
        raise InvalidNumber(level)
    return tuple([coded(word, total, told, level) for told in told_levels(word, total)])


def told_levels(word, total):
    """The ascending list of the told levels of a factor with so many levels."""
    start = 1 if word in WITHOUT_FIRST else 0
    return list(range(start, start + total - 1))


def coded(word, total, told, level):
    """The ratio for a told level at a level."""
    if level == told:
        return Ratio(1)
    if word == "sum" and level == total - 1:
        return Ratio(-1)
    if word == "steps" and level < told:
        return Ratio(-1, told)
    return Ratio(0)


def is_codings(value):
    """Whether the value is None, or a dict from names to codings."""
    if value is None:
        return True
    return isinstance(value, dict) and all([is_name(name) and value[name] in CODINGS for name in value])


def codings_for(codings, factors):
    """The dict from factors to their codings, the usual one for those that have none; None if it has others."""
    given = {} if codings is None else codings
    if not all([name in factors for name in given]):
        return None
    return {name: given.get(name, USUAL) for name in factors}
