"""Which levels two factors join, and which cells tell all that a formula of factors has."""

from worthstead.errors import InvalidFormula, InvalidModel, InvalidNumber, InvalidOperation, TooMany, UnknownName
from worthstead.exact.ratios import is_between
from worthstead.exact.reducing import reduced_square
from worthstead.exact.rows import base_of
from worthstead.exact.scaling import ratios_of, scaled_rows
from worthstead.exact.solving import LIMIT_BITS
from worthstead.formulas.formulas import check_formula
from worthstead.formulas.shadows import is_kinds
from worthstead.models.codings import USUAL
from worthstead.models.forms import column_names, column_total, pairs_by_term, parts_at, products_at
from worthstead.models.models import MAX_COLUMNS, MAX_KEPT
from worthstead.tables.columns import FACTOR, FEWEST_LEVELS, MAX_LEVELS
from worthstead.tables.tables import check_table


def joined_parts(table, one, other):
    """The joined parts of the levels of two factors of a table."""
    check_table(table)
    check_factor(table, one)
    check_factor(table, other)
    check_different(one, other)
    parts = []
    for left, right, _ in level_pairs(table, one, other):
        met = [part for part in parts if left in part[0] or right in part[1]]
        others = [part for part in parts if part not in met]
        lefts = sorted(set([left] + [level for part in met for level in part[0]]))
        rights = sorted(set([right] + [level for part in met for level in part[1]]))
        parts = others + [(tuple(lefts), tuple(rights))]
    return tuple(sorted(parts))


def way_between(table, one, other, start, end):
    """A way with the fewest rows between two levels of the other factor, or None."""
    check_table(table)
    check_factor(table, one)
    check_factor(table, other)
    for level in (start, end):
        if not is_between(level, 0, len(table[other].levels) - 1):
            raise InvalidNumber(level)
    check_different(one, other)
    pairs = level_pairs(table, one, other)
    ways = {start: ()}
    reached = [start]
    while reached and end not in ways:
        following = []
        for level in reached:
            for further, steps in steps_from(pairs, level):
                if further not in ways:
                    ways[further] = ways[level] + steps
                    following.append(further)
        reached = following
    return ways.get(end)


def check_factor(table, name):
    """Raise an error unless a factor of the table has this name."""
    if name not in table or table[name].kind != FACTOR:
        raise UnknownName(name)


def check_different(one, other):
    """Raise an error if both names are the same."""
    if one == other:
        raise InvalidOperation("the factors are the same")


def level_pairs(table, one, other):
    """The levels of two factors in the rows in which both have one, with the indices of these rows."""
    found = []
    for index in table.complete((one, other)):
        found.append((table[one].codes[index], table[other].codes[index], index))
    return found


def steps_from(pairs, level):
    """The levels of the other factor that two rows lead to from one level, each with these rows."""
    found = []
    for left, right, index in pairs:
        if right == level:
            found = found + [(further, (index, at)) for middle, further, at in pairs if middle == left]
    return found


def fewest(formula, kinds, levels, cells):
    """The cells that tell all combinations, or weights that show that the cells do not."""
    check_formula(formula)
    if not is_kinds(kinds):
        raise InvalidFormula("this is no dict from names to kinds")
    names = formula.names
    if not is_levels(levels, names):
        raise InvalidModel("this is no dict from just the names of the terms to numbers of levels")
    if not are_cells(cells, names, levels):
        raise InvalidModel("these are no cells of the names of the terms")
    check_all_factors(names, kinds)
    pairs = pairs_by_term(formula.terms, kinds, MAX_COLUMNS)
    if column_total(pairs, levels) > MAX_COLUMNS:
        raise TooMany(MAX_COLUMNS)
    codings = {name: USUAL for name in names}
    columns = column_names(pairs, levels, codings)
    rows = tuple([cell_row(columns, levels, codings, names, cell) for cell in cells])
    base = base_of(rows)
    if len(base) == len(columns):
        return "all", tuple([cells[index] for index in base])
    return "lack", ratios_of(reduced_square(scaled_rows(rows), len(columns), LIMIT_BITS)[0])


def is_levels(value, names):
    """Whether the value is a dict from just these names to numbers of levels."""
    if not isinstance(value, dict) or len(value) != len(names):
        return False
    return all([name in value and is_between(value[name], FEWEST_LEVELS, MAX_LEVELS) for name in names])


def are_cells(value, names, levels):
    """Whether the value is a tuple of not too many cells of these factors."""
    if not isinstance(value, tuple) or len(value) > MAX_KEPT:
        return False
    return all([is_cell(cell, [levels[name] for name in names]) for cell in value])


def is_cell(value, totals):
    """Whether the value is a tuple of indices of so many levels each."""
    if not isinstance(value, tuple) or len(value) != len(totals):
        return False
    return all([is_between(level, 0, total - 1) for level, total in zip(value, totals)])


def check_all_factors(names, kinds):
    """Raise an error unless the kinds have all of these names, as factors."""
    for name in names:
        if name not in kinds:
            raise UnknownName(name)
    if not all([kinds[name] == FACTOR for name in names]):
        raise InvalidOperation("one of the names is a number")


def cell_row(columns, levels, codings, names, cell):
    """The row of the columns at a cell of all these factors."""
    worths = {name: level for name, level in zip(names, cell)}
    return products_at(columns, parts_at(codings, levels, codings, worths))
