"""Models: the columns that a formula has on a table."""

from worthstead.errors import InvalidModel, InvalidRatio, TooMany, UnknownName
from worthstead.exact.digits import is_longer
from worthstead.exact.ratios import are_ratios, is_between, is_ratio
from worthstead.exact.rows import ENTRY_DIGITS, is_short
from worthstead.exact.scaling import scaled
from worthstead.exact.solving import columns_of
from worthstead.exact.spaces import Space
from worthstead.formulas.formulas import check_formula
from worthstead.models.codings import codings_for, is_codings
from worthstead.models.forms import (
    column_names,
    column_total,
    factors_of,
    numbers_of,
    pairs_by_term,
    parts_at,
    places_of_term,
    products_at,
)
from worthstead.tables.columns import FACTOR
from worthstead.tables.tables import check_table

MAX_KEPT = 64
MAX_COLUMNS = 24
MAX_FIGURES = 6


class Model:
    """A table, a formula and codings, and the rows of columns that they make; it never changes."""

    def __init__(self, table, formula, *, codings=None):
        check_table(table)
        check_formula(formula)
        if not is_codings(codings):
            raise InvalidModel("this is no dict from names to codings")
        check_known(table, formula)
        self._table = table
        self._formula = formula
        self._kinds = {name: table[name].kind for name in formula.names}
        self._levels = {name: len(table[name].levels) for name in factors_of(self._kinds)}
        self._codings = codings_for(codings, factors_of(self._kinds))
        if self._codings is None or is_factor(table, formula.response):
            raise InvalidModel("the response is a factor, or a coding is told for what is no factor of the terms")
        self._kept = table.complete(named_columns(formula))
        if len(self._kept) > MAX_KEPT:
            raise TooMany(MAX_KEPT)
        pairs = pairs_by_term(formula.terms, self._kinds, MAX_COLUMNS)
        if column_total(pairs, self._levels) > MAX_COLUMNS:
            raise TooMany(MAX_COLUMNS)
        self._names = column_names(pairs, self._levels, self._codings)
        self._rows = kept_rows(self)

    @property
    def table(self):
        """The table."""
        return self._table

    @property
    def formula(self):
        """The formula."""
        return self._formula

    @property
    def codings(self):
        """The dict from the factors of the terms to their codings."""
        return {name: self._codings[name] for name in self._codings}

    @property
    def kinds(self):
        """The dict from the names of the terms to the kinds of their columns."""
        return {name: self._kinds[name] for name in self._kinds}

    @property
    def levels(self):
        """The dict from the factors of the terms to their numbers of levels."""
        return {name: self._levels[name] for name in self._levels}

    @property
    def kept(self):
        """The ascending tuple of the indices of the kept rows."""
        return self._kept

    @property
    def names(self):
        """The tuple of the names of the columns."""
        return self._names

    @property
    def rows(self):
        """The rows of the model, one for each kept row."""
        return self._rows

    @property
    def response(self):
        """The ratios of the response in the kept rows, or None."""
        if self._formula.response is None:
            return None
        ratios = self._table[self._formula.response].ratios
        return tuple([ratios[index] for index in self._kept])

    @property
    def space(self):
        """The space of the columns, each a row of one ratio for each kept row."""
        return space_of_columns(self, list(range(len(self._names))))

    def row_for(self, worths):
        """The row of the columns at told worths."""
        if not is_worths(worths, self._kinds, self._levels):
            raise InvalidModel("these are no worths for the names of the terms")
        check_figures([worths[name] for name in numbers_of(self._kinds)])
        row = row_at(self, worths)
        check_entries([row])
        return row

    def span_of(self, term):
        """The space of the columns of all pairs of the shadow of a term."""
        check_term_of(self._formula, term)
        return space_of_columns(self, places_of_term(self._names, term, self._kinds))

    def __len__(self):
        return len(self._names)

    def __eq__(self, other):
        return (
            isinstance(other, Model) and self._table == other._table and self._formula == other._formula
            and self._codings == other._codings
        )

    def __str__(self):
        return f"model of {len(self._rows)} rows, {len(self._names)} columns"


def check_model(value):
    """Raise an error unless the value is a model."""
    if not isinstance(value, Model):
        raise InvalidModel("this is no model")


def check_known(table, formula):
    """Raise an error unless the table has all names of the terms, and the response."""
    for name in named_columns(formula):
        if name not in table:
            raise UnknownName(name)


def check_term_of(formula, value):
    """Raise an error unless the value is a term of the formula."""
    if value not in formula:
        raise UnknownName(value)


def check_combination(model, wanted):
    """Raise an error unless there is one ratio for each column of the model, each short enough."""
    if not are_ratios(wanted) or len(wanted) != len(model):
        raise InvalidRatio("this is no tuple of one ratio for each column")
    check_entries([wanted])


def check_figures(ratios):
    """Raise an error if one of the ratios of a number has too many digits."""
    if any([is_longer(one.top, MAX_FIGURES) or is_longer(one.bottom, MAX_FIGURES) for one in ratios]):
        raise TooMany(MAX_FIGURES)


def check_entries(rows):
    """Raise an error if a ratio in one of the rows has too many digits."""
    if not all([is_short(one) for row in rows for one in row]):
        raise TooMany(ENTRY_DIGITS)


def is_factor(table, name):
    """Whether the name is that of a factor of the table, and not None."""
    return name is not None and table[name].kind == FACTOR


def named_columns(formula):
    """The names of the terms, and behind them the response."""
    return formula.names if formula.response is None else formula.names + (formula.response,)


def is_worths(value, kinds, levels):
    """Whether the value is a dict from just these names to indices of levels and ratios."""
    if not isinstance(value, dict) or len(value) != len(kinds) or not all([name in value for name in kinds]):
        return False
    return all([
        is_between(value[name], 0, levels[name] - 1) if name in levels else is_ratio(value[name]) for name in kinds
    ])


def row_at(model, worths):
    """The row of the columns of a model at right worths."""
    return products_at(model.names, parts_at(model.kinds, model.levels, model.codings, worths))


def kept_rows(model):
    """The rows of a model, one for each kept row, if its numbers and they themselves are short enough."""
    worths = [model.table.worths(index) for index in model.kept]
    numbers = numbers_of(model.kinds)
    check_figures([row[name] for row in worths for name in numbers])
    if model.response is not None:
        check_figures(list(model.response))
    rows = tuple([row_at(model, row) for row in worths])
    check_entries(rows)
    return rows


def ratio_columns(model):
    """The list of the columns of a model, each a list of one ratio for each kept row."""
    return columns_of(model.rows, len(model))


def integer_columns(model):
    """The columns of a model as rows of integers, and the bottoms that each of them stands over."""
    pairs = [scaled(column) for column in ratio_columns(model)]
    return [tops for tops, _ in pairs], [bottom for _, bottom in pairs]


def space_of_columns(model, places):
    """The space of the columns with these indices."""
    columns = ratio_columns(model)
    return Space(len(model.kept), tuple([tuple(columns[place]) for place in places]))
