"""The columns of models as forms: what they are, whatever the rows.

The name of a column has a part for each of its names: (name, told level) for a factor, (name, None) for a number. So
a dict from such parts to ratios tells what each column is somewhere.
"""

from worthstead.exact.ratios import ratio_of
from worthstead.formulas.shadows import is_held_by, pair_of, parts_of
from worthstead.models.codings import coded, told_levels
from worthstead.tables.columns import FACTOR


def pairs_by_term(terms, kinds, most):
    """The pairs of the shadow, term by term; the list is left off where it has more than so many."""
    found = []
    for term in terms:
        numbers, factors = pair_of(term, kinds)
        for _, part in sorted([(len(part), part) for part in parts_of(factors)]):
            if (numbers, part) not in found:
                found.append((numbers, part))
            if len(found) > most:
                return found
    return found


def column_total(pairs, levels):
    """How many columns some pairs have."""
    total = 0
    for _, factors in pairs:
        choices = 1
        for name in factors:
            choices = choices * (levels[name] - 1)
        total = total + choices
    return total


def column_names(pairs, levels, codings):
    """The names of the columns of some pairs."""
    names = []
    for numbers, factors in pairs:
        choices = [[(name, None) for name in numbers]]
        for name in factors:
            told = told_levels(codings[name], levels[name])
            choices = [choice + [(name, level)] for choice in choices for level in told]
        names = names + [tuple(sorted(choice)) for choice in choices]
    return tuple(names)


def pair_of_column(name):
    """The pair that a column belongs to."""
    numbers = tuple([word for word, level in name if level is None])
    return numbers, tuple([word for word, level in name if level is not None])


def places_of_term(names, term, kinds):
    """The ascending list of the indices of the columns of the shadow of a term, by the names of all columns."""
    pair = pair_of(term, kinds)
    return [place for place, name in enumerate(names) if is_held_by(pair_of_column(name), pair)]


def factors_of(kinds):
    """The names of the factors, in the order of the kinds."""
    return [name for name in kinds if kinds[name] == FACTOR]


def numbers_of(kinds):
    """The names of the numbers, in the order of the kinds."""
    return [name for name in kinds if kinds[name] != FACTOR]


def parts_at(kinds, levels, codings, worths):
    """The dict from the parts of the names that have worths to their ratios there."""
    parts = {}
    for name in kinds:
        if name in worths and name in codings:
            for told in told_levels(codings[name], levels[name]):
                parts[(name, told)] = coded(codings[name], levels[name], told, worths[name])
        elif name in worths:
            parts[(name, None)] = worths[name]
    return parts


def products_at(names, parts):
    """The row of the columns with these names where the parts have these ratios."""
    return tuple([product_of_parts(name, parts) for name in names])


def product_of_parts(name, parts):
    """The product of the ratios of the parts of a column."""
    top = 1
    bottom = 1
    for part in name:
        top = top * parts[part].top
        bottom = bottom * parts[part].bottom
    return ratio_of(top, bottom)
