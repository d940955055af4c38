"""Exact fits of the response of a model."""

from worthstead.errors import InvalidOperation, Refused
from worthstead.exact.leaving import lefts_of, weights_behind
from worthstead.exact.ratios import ratio_of
from worthstead.exact.rows import is_sum_of_rows
from worthstead.exact.scaling import pairs_of, ratios_of, scaled
from worthstead.exact.solving import LIMIT_BITS, common_bottom, longest_of, product_of, tops_over
from worthstead.fits.adding import added_places, lessened_pair, pairs_over, places_of, sums_along, terms_apart
from worthstead.fits.ordering import is_order
from worthstead.models.models import check_model, integer_columns
from worthstead.models.told import told


class Fit:
    """The fit of the response of a model; it never changes."""

    def __init__(self, model):
        check_model(model)
        check_response(model)
        self._model = model

    @property
    def model(self):
        """The model."""
        return self._model

    @property
    def weights(self):
        """One ratio for each column, 0 for each that hangs."""
        return ratios_of(weight_pairs(self._model, LIMIT_BITS))

    @property
    def fitted(self):
        """The sum of the columns times their weights, in each kept row."""
        return ratios_of(fitted_pairs(self._model))

    @property
    def rests(self):
        """The response less the fitted values."""
        pairs = pairs_of(self._model.response)
        return ratios_of([lessened_pair(one, other) for one, other in zip(pairs, fitted_pairs(self._model))])

    @property
    def total(self):
        """The square of the response."""
        side, bottom = scaled(self._model.response)
        return ratio_of(product_of(side, side), bottom * bottom)

    @property
    def left(self):
        """The square of the rests."""
        side, bottom = scaled(self._model.response)
        return ratios_of(pairs_over(lefts_of(integer_columns(self._model)[0], side)[-1:], bottom))[0]

    def foretold(self, worths):
        """The ratio that is foretold for a new row."""
        row = self._model.row_for(worths)
        if not is_sum_of_rows(self._model.rows, row):
            raise Refused(("free", told(self._model, row)[1]))
        pairs = weight_pairs(self._model, None)
        bottom = common_bottom(pairs)
        tops, below = scaled(row)
        return ratio_of(product_of(tops, tops_over(pairs, bottom)), bottom * below)

    def sums(self, *, order=None):
        """The sums of the terms in an order, and left."""
        terms = order_for(self._model.formula, order)
        side, bottom = scaled(self._model.response)
        columns = integer_columns(self._model)[0]
        return ratios_of(pairs_over(sums_along(columns, added_places(self._model, terms), side), bottom))

    def behind_sums(self):
        """The squares of the parts of the response in the late spaces, and left."""
        # Where what is left is too long, the sums, which take longer, need not be known.
        left = self.left
        side, bottom = scaled(self._model.response)
        columns = integer_columns(self._model)[0]
        pairs = [late_sum(self._model, columns, term, side) for term in self._model.formula.terms]
        return ratios_of(pairs_over(pairs, bottom)) + (left,)

    def __eq__(self, other):
        return isinstance(other, Fit) and self._model == other._model

    def __str__(self):
        return f"fit of {len(self._model.names)} columns to {len(self._model.kept)} rows"


def check_response(model):
    """Raise an error unless the formula of a model has a response."""
    if model.response is None:
        raise Refused(("response",))


def order_for(formula, order):
    """The order that is told, or that of the formula for None."""
    if order is None:
        return formula.terms
    if not is_order(order, formula):
        raise InvalidOperation("this is no order of the terms of the formula")
    return order


def weight_pairs(model, limit):
    """The weights of a fit as pairs; if a limit is told, TooMany is raised where one surely has more bits."""
    columns, bottoms = integer_columns(model)
    side, below = scaled(model.response)
    # What is solved for are weights of rows of integers, which are shorter or longer by these bottoms.
    bits = None if limit is None else limit + longest_of(bottoms) + below.bit_length()
    base, found = weights_behind(columns, [side], bits)
    pairs = [(0, 1)] * len(columns)
    for index, (top, bottom) in zip(base, found[0]):
        pairs[index] = (top * bottoms[index], bottom * below)
    return pairs


def fitted_pairs(model):
    """The fitted values as pairs."""
    pairs = weight_pairs(model, None)
    bottom = common_bottom(pairs)
    tops = tops_over(pairs, bottom)
    found = []
    for row in model.rows:
        entries, below = scaled(row)
        found.append((product_of(tops, entries), bottom * below))
    return found


def late_sum(model, columns, term, side):
    """The square of the part of a side in the late space of a term, as a pair."""
    behind = places_of(model, terms_apart(model, term))
    places = [place for place in places_of(model, [term]) if place not in behind]
    lefts = lefts_of([columns[place] for place in behind + places], side)
    return lessened_pair(lefts[len(behind)], lefts[-1])
