"""What leads from one coding of a model to another one."""

from worthstead.errors import InvalidModel
from worthstead.exact.ratios import Ratio, mean
from worthstead.models.codings import coded, codings_for, is_codings, told_levels
from worthstead.models.forms import column_names, factors_of, pair_of_column
from worthstead.models.models import check_model


def leading(model, codings):
    """The tables that lead weights, and combinations, of a model to other codings."""
    check_model(model)
    if not is_codings(codings):
        raise InvalidModel("this is no dict from names to codings")
    others = codings_for(codings, factors_of(model.kinds))
    if others is None:
        raise InvalidModel("a coding is told for what is no factor of the terms")
    pairs = different_pairs(model.names)
    names = column_names(pairs, model.levels, others)
    onward = [sum_of_others(name, model.levels, model.codings, others) for name in model.names]
    back = [sum_of_others(name, model.levels, others, model.codings) for name in names]
    weights = tuple([tuple([form.get(name, Ratio(0)) for form in onward]) for name in names])
    return weights, tuple([tuple([form.get(name, Ratio(0)) for name in model.names]) for form in back])


def different_pairs(names):
    """The pairs of the columns with these names, each once, as they come about."""
    return list({pair_of_column(name): True for name in names})


def sum_of_others(column, levels, codings, others):
    """The dict from the names of columns for other codings to the weights with which they make a column."""
    form = {(): Ratio(1)}
    for name, told in column:
        parts = {((name, None),): Ratio(1)} if told is None else level_form(name, told, levels, codings, others)
        form = {
            ahead + part: form[ahead] * parts[part] for ahead in form for part in parts
        }
    return form


def level_form(name, told, levels, codings, others):
    """The same for a told level of one factor alone."""
    total = levels[name]
    constant, weights = weights_by(others[name], [coded(codings[name], total, told, level) for level in range(total)])
    form = {(): constant}
    for other, weight in zip(told_levels(others[name], total), weights):
        form[((name, other),)] = weight
    return form


def weights_by(word, worths):
    """The constant and the weights of told levels with which a coding makes a ratio for each level."""
    if word == "first":
        return worths[0], [one - worths[0] for one in worths[1:]]
    if word == "last":
        return worths[-1], [one - worths[-1] for one in worths[:-1]]
    middle = mean(tuple(worths))
    if word == "sum":
        return middle, [one - middle for one in worths[:-1]]
    # A step lifts its level from the mean of those up to it, and leaves this mean as it is.
    return middle, [worths[level] - mean(tuple(worths[:level + 1])) for level in range(1, len(worths))]
