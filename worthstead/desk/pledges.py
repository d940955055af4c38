"""Pledges: combinations of columns, by their names, that a model is to tell."""

from worthstead.errors import Refused, TooMany
from worthstead.exact.ratios import Ratio, is_ratio
from worthstead.exact.rows import ENTRY_DIGITS, is_short, is_sum_of_rows


def is_pledge(value, model):
    """Whether the value is a dict from one or more names of columns of a model to ratios other than 0."""
    if not isinstance(value, dict) or not value:
        return False
    names = model.names
    return all([is_column(name, names) and is_ratio(value[name]) and bool(value[name]) for name in value])


def is_column(value, names):
    """Whether the value is one of the names of columns, in which no boolean stands for a level."""
    return value in names and not any([isinstance(level, bool) for _, level in value])


def sorted_pledge(weights):
    """The pledge by ascending names."""
    return {name: weights[name] for name in sorted(list(weights))}


def check_new(weights, model):
    """Raise an error unless the model tells the combination of a pledge."""
    if not all([is_short(weights[name]) for name in weights]):
        raise TooMany(ENTRY_DIGITS)
    if not is_kept(weights, model):
        raise Refused(("free",))


def check_all(pledges, model):
    """Raise an error for the first pledge that is not kept."""
    for index, weights in enumerate(pledges):
        if not is_kept(weights, model):
            raise Refused(("pledge", index))


def is_kept(weights, model):
    """Whether the model has the columns of a pledge, and tells the combination."""
    names = model.names
    if not all([name in names for name in weights]):
        return False
    wanted = tuple([weights[name] if name in weights else Ratio(0) for name in names])
    return is_sum_of_rows(model.rows, wanted)
