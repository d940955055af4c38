"""What the rows of a model tell of combinations of its columns."""

from worthstead.errors import InvalidModel, TooMany
from worthstead.exact.ratios import Ratio, is_ratio, mean
from worthstead.exact.rows import is_summed, summed, sums_of
from worthstead.models.codings import coded, told_levels
from worthstead.models.forms import numbers_of, parts_at, products_at
from worthstead.models.models import check_combination, check_entries, check_figures, check_model, ratio_columns
from worthstead.names import are_names
from worthstead.tables.tables import MAX_CELLS

# What the words of rows are called here.
WORDS = {"sum": "told", "apart": "free"}
BACK = {"told": "sum", "free": "apart"}


def told(model, wanted):
    """That the rows tell a combination, or weights that show that they do not."""
    check_model(model)
    check_combination(model, wanted)
    word, shown = summed(model.rows, wanted)
    return WORDS[word], shown


def is_told(model, wanted, value):
    """Whether the value shows that the rows tell a combination, or that they do not."""
    check_model(model)
    check_combination(model, wanted)
    if not isinstance(value, tuple) or len(value) != 2 or not is_told_word(value[0]):
        return False
    return is_summed(model.rows, wanted, (BACK[value[0]], value[1]))


def is_told_word(value):
    """Whether the value is one of the words that begin what is told."""
    return isinstance(value, str) and value in BACK


def hanging(model):
    """The dict from the indices of the hanging columns to their multiples of the base columns."""
    check_model(model)
    return sums_of(tuple([tuple(column) for column in ratio_columns(model)]))


def means(model, names, *, at=None):
    """The dict from the cells of some factors to the means of the model at them."""
    check_model(model)
    if not are_names(names) or not all([name in model.levels for name in names]):
        raise InvalidModel("this is no tuple of different factors of the terms")
    numbers = numbers_of(model.kinds)
    if not is_at(at, numbers):
        raise InvalidModel("this is no dict from just the numbers of the terms to ratios")
    cells = cells_within(names, model.levels, MAX_CELLS)
    worths = {name: Ratio(0) if at is None else at[name] for name in numbers}
    check_figures([worths[name] for name in numbers])
    around = mean_parts(model, names)
    found = {cell: mean_at(model, around, worths, names, cell) for cell in cells}
    check_entries([found[cell] for cell in cells])
    return found


def is_at(value, numbers):
    """Whether the value is None, or a dict from just these names to ratios."""
    if value is None:
        return True
    if not isinstance(value, dict) or len(value) != len(numbers):
        return False
    return all([name in value and is_ratio(value[name]) for name in numbers])


def cells_within(names, levels, most):
    """All cells of some factors, ascending, if they are not too many."""
    total = 1
    for name in names:
        total = total * levels[name]
    if total > most:
        raise TooMany(most)
    cells = [()]
    for name in names:
        cells = [cell + (level,) for cell in cells for level in range(levels[name])]
    return cells


def mean_parts(model, names):
    """The dict from the parts of all other factors to the means of their ratios over all levels."""
    parts = {}
    for name in model.levels:
        if name not in names:
            word, total = model.codings[name], model.levels[name]
            for level in told_levels(word, total):
                parts[(name, level)] = mean(tuple([coded(word, total, level, other) for other in range(total)]))
    return parts


def mean_at(model, around, worths, names, cell):
    """The mean at one cell; what is told around it is the same for all."""
    parts = {name: worths[name] for name in worths}
    for name, level in zip(names, cell):
        parts[name] = level
    found = parts_at(model.kinds, model.levels, model.codings, parts)
    for part in around:
        found[part] = around[part]
    return products_at(model.names, found)
