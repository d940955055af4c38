"""Strata: what blocks of rows, and the differences within them, tell of a model."""

from worthstead.errors import InvalidNumber, InvalidOperation, InvalidTable, UnknownName
from worthstead.exact.ratios import is_between, is_ratio, ratio_of
from worthstead.exact.rows import is_apart, is_row, is_summed, summed_freely
from worthstead.exact.scaling import led_row, ratios_of, scaled
from worthstead.exact.solving import product_of
from worthstead.fits.adding import added_places, is_in_own_part, own_rests, pairs_over, sums_along
from worthstead.fits.fits import check_response, order_for
from worthstead.fits.parting import bottom_for, is_in_stratum, labels_of, part_tops, stratum_of, stratum_space
from worthstead.fits.sharing import first_joined, is_back_multiple, odd_row, share_pair
from worthstead.models.models import check_combination, check_model, check_term_of, integer_columns
from worthstead.names import are_names
from worthstead.tables.columns import FACTOR

MAX_BLOCKS = 6


class Strata:
    """The strata of the kept rows of a model by blocks; it never changes."""

    def __init__(self, model, blocks):
        check_model(model)
        check_blocks(model, blocks)
        self._model = model
        self._blocks = blocks
        labels = labels_of(model, blocks)
        self._strata = [stratum_of(labels, index) for index in range(len(labels))]
        self._spaces = tuple([stratum_space(stratum) for stratum in self._strata])

    @property
    def model(self):
        """The model."""
        return self._model

    @property
    def blocks(self):
        """The names of the block factors."""
        return self._blocks

    @property
    def spaces(self):
        """The tuple of the strata as spaces."""
        return self._spaces

    def __len__(self):
        return len(self._spaces)

    def __eq__(self, other):
        return isinstance(other, Strata) and self._model == other._model and self._blocks == other._blocks

    def __str__(self):
        return f"{len(self._spaces)} strata of {len(self._model.kept)} rows"

    def told_in(self, index, wanted):
        """That a row of a stratum makes a combination, or weights that show that none does."""
        check_index(index, len(self))
        check_combination(self._model, wanted)
        word, shown = summed_freely(part_rows(self._model, self._strata[index]), wanted)
        if word == "apart":
            return "free", shown
        return "told", part_of_row(self._strata[index], shown)

    def is_told_in(self, index, wanted, value):
        """Whether the value shows that a row of a stratum makes a combination, or that none does."""
        check_index(index, len(self))
        check_combination(self._model, wanted)
        if not isinstance(value, tuple) or len(value) != 2:
            return False
        word, shown = value
        if word == "told":
            made = is_summed(self._model.rows, wanted, ("sum", shown))
            return made and is_in_stratum(self._strata[index], scaled(shown)[0])
        if word != "free" or not is_row(shown, len(wanted)):
            return False
        return is_apart(part_rows(self._model, self._strata[index]), wanted, shown)

    def sums_in(self, index, *, order=None):
        """The sums of the terms in a stratum, in an order, and what is left."""
        check_index(index, len(self))
        terms = order_for(self._model.formula, order)
        check_response(self._model)
        stratum = self._strata[index]
        below = bottom_for(stratum)
        columns = [part_tops(stratum, column, below) for column in integer_columns(self._model)[0]]
        side, bottom = scaled(self._model.response)
        pairs = sums_along(columns, added_places(self._model, terms), part_tops(stratum, side, below))
        return ratios_of(pairs_over(pairs, bottom * below))

    def share(self, term):
        """The shares of a term in the strata, or rows that show that it has none."""
        check_term_of(self._model.formula, term)
        rows = own_rests(self._model, integer_columns(self._model)[0], term)
        if not rows:
            return ()
        return tuple([share_by(stratum, rows) for stratum in self._strata])

    def is_share(self, term, value):
        """Whether the value has a share of a term, or a row that shows that there is none, for each stratum."""
        check_term_of(self._model.formula, term)
        rows = own_rests(self._model, integer_columns(self._model)[0], term)
        if not isinstance(value, tuple) or len(value) != (len(self) if rows else 0):
            return False
        return all([
            is_share_pair(self._model, term, stratum, rows, pair) for stratum, pair in zip(self._strata, value)
        ])

    def balanced(self):
        """That the model is balanced, or a certificate that it is not."""
        terms = self._model.formula.terms
        columns = integer_columns(self._model)[0]
        rests = [own_rests(self._model, columns, term) for term in terms]
        for term, rows in zip(terms, rests):
            for index, stratum in enumerate(self._strata):
                odd = odd_row(rows, parts_in(stratum, rows)) if rows else None
                if odd is not None:
                    return "share", term, index, led_row(odd)
        for left, one in enumerate(terms):
            for right in range(left + 1, len(terms)):
                found = joined_parts_of(self._strata, rests[left], rests[right])
                if found is not None:
                    return ("parts", one, terms[right]) + found
        return ("balanced",)

    def is_unbalanced(self, value):
        """Whether the value shows that the model is not balanced."""
        if not isinstance(value, tuple):
            return False
        if len(value) == 4 and value[0] == "share":
            _, term, index, row = value
            return is_between(index, 0, len(self) - 1) and is_share_missing(self._model, term, self._strata[index], row)
        if len(value) != 6 or value[0] != "parts":
            return False
        _, one, other, index, row, far = value
        if not is_between(index, 0, len(self) - 1) or not is_ahead(self._model.formula.terms, one, other):
            return False
        return are_joined(self._model, self._strata[index], [(one, row), (other, far)])


def check_blocks(model, value):
    """Raise an error unless the value is a tuple of factors that have a level in each kept row of a model."""
    if not are_names(value) or len(value) > MAX_BLOCKS:
        raise InvalidOperation("the blocks are no tuple of different names, or too many")
    for name in value:
        if name not in model.table:
            raise UnknownName(name)
    for name in value:
        if model.table[name].kind != FACTOR:
            raise InvalidTable("a block is no factor")
        if any([model.table[name].codes[index] is None for index in model.kept]):
            raise InvalidTable("a block lacks a value in a kept row")


def check_index(value, many):
    """Raise an error unless the value is the index of one of so many strata."""
    if not is_between(value, 0, many - 1):
        raise InvalidNumber(value)


def part_of_row(stratum, row):
    """The part of a row of ratios in a stratum."""
    tops, bottom = scaled(row)
    below = bottom_for(stratum)
    return ratios_of([(top, bottom * below) for top in part_tops(stratum, tops, below)])


def part_rows(model, stratum):
    """The rows of a model with the parts of their columns in a stratum as columns."""
    below = bottom_for(stratum)
    columns, bottoms = integer_columns(model)
    parts = [part_tops(stratum, column, below) for column in columns]
    return tuple([
        tuple([ratio_of(part[at], bottom * below) for part, bottom in zip(parts, bottoms)])
        for at in range(len(model.kept))
    ])


def parts_in(stratum, rows):
    """The parts of rows of integers in a stratum, over the bottom for it."""
    below = bottom_for(stratum)
    return [part_tops(stratum, row, below) for row in rows]


def share_by(stratum, rows):
    """The share in a stratum of rows that span an own part, or a row that shows that there is none."""
    parts = parts_in(stratum, rows)
    odd = odd_row(rows, parts)
    if odd is not None:
        return "none", led_row(odd)
    top, bottom = share_pair(rows, parts, bottom_for(stratum))
    return "share", ratio_of(top, bottom)


def joined_parts_of(strata, rows, others):
    """The index of the first stratum in which rows of two own parts are not square, and such rows; or None."""
    for index, stratum in enumerate(strata):
        found = first_joined(rows, others, parts_in(stratum, others))
        if found is not None:
            return index, led_row(found[0]), led_row(found[1])
    return None


def is_own_row(model, term, value):
    """Whether the value is a row of the own part of a term of the formula."""
    if term not in model.formula or not is_row(value, len(model.kept)):
        return False
    return is_in_own_part(model, integer_columns(model)[0], term, scaled(value)[0])


def is_share_missing(model, term, stratum, value):
    """Whether the value is a row of the own part of a term such that no multiple of it comes back."""
    if not is_own_row(model, term, value):
        return False
    rows = own_rests(model, integer_columns(model)[0], term)
    row = scaled(value)[0]
    return not is_back_multiple(rows, row, part_tops(stratum, row, bottom_for(stratum)))


def is_share_pair(model, term, stratum, rows, value):
    """Whether the value is the share of a term in a stratum, or a row that shows that there is none."""
    if not isinstance(value, tuple) or len(value) != 2:
        return False
    if value[0] == "none":
        return is_share_missing(model, term, stratum, value[1])
    if value[0] != "share" or not is_ratio(value[1]):
        return False
    parts = parts_in(stratum, rows)
    top, bottom = share_pair(rows, parts, bottom_for(stratum))
    return odd_row(rows, parts) is None and value[1].top * bottom == top * value[1].bottom


def is_ahead(terms, one, other):
    """Whether the first term stands ahead of the second one."""
    return one in terms and other in terms and terms.index(one) < terms.index(other)


def are_joined(model, stratum, pairs):
    """Whether two terms, each with a row of its own part, are such that these rows are not square in a stratum."""
    if not all([is_own_row(model, term, row) for term, row in pairs]):
        return False
    near, far = [scaled(row)[0] for _, row in pairs]
    return product_of(near, part_tops(stratum, far, bottom_for(stratum))) != 0
