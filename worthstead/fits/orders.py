"""Fair orders, own parts and late spaces of terms, and models whose sums do not hang on the order."""

from worthstead.errors import InvalidOperation, TooMany
from worthstead.exact.leaving import is_square_to_all, lefts_of
from worthstead.exact.ratios import lowest_terms
from worthstead.exact.reducing import reduced_rows
from worthstead.exact.rows import is_row
from worthstead.exact.scaling import led_row, scaled
from worthstead.exact.solving import LIMIT_BITS
from worthstead.exact.spaces import space_of
from worthstead.fits.adding import (
    added_places,
    held_terms,
    is_in_own_part,
    lessened_pair,
    own_rests,
    rests_of_term,
    terms_apart,
)
from worthstead.fits.ordering import is_fair_order, is_held_term, is_order
from worthstead.formulas.formulas import check_formula
from worthstead.formulas.shadows import check_kinds
from worthstead.models.models import check_model, check_term_of, integer_columns

MOST_ORDERS = 24


def is_held(formula, kinds, one, other):
    """Whether a term of a formula is held by another one."""
    check_formula(formula)
    check_kinds([formula], kinds)
    check_term_of(formula, one)
    check_term_of(formula, other)
    return is_held_term(one, other, kinds)


def own_part(model, term):
    """What a term adds behind the terms that it holds."""
    check_model(model)
    check_term_of(model.formula, term)
    return space_spanned(model, own_rests(model, integer_columns(model)[0], term))


def late_space(model, term):
    """What a term adds behind all other terms that do not hold it."""
    check_model(model)
    check_term_of(model.formula, term)
    return space_spanned(model, rests_of_term(model, integer_columns(model)[0], term, terms_apart(model, term)))


def space_spanned(model, rows):
    """The space of all sums of some rows of integers, one for each kept row of a model."""
    width = len(model.kept)
    return space_of(width, reduced_rows(rows, width, LIMIT_BITS))


def is_fair(model, order):
    """Whether an order is fair."""
    check_model(model)
    if not is_order(order, model.formula):
        raise InvalidOperation("this is no order of the terms of the formula")
    return is_fair_order(order, model.kinds)


def fair_orders(model):
    """All fair orders, by the indices that their terms have in the formula."""
    check_model(model)
    terms = model.formula.terms
    held = {term: held_terms(model, term) for term in terms}
    orders = [()]
    for _ in terms:
        orders = [
            order + (term,)
            for order in orders
            for term in terms
            if term not in order and all([other in order for other in held[term]])
        ]
        # Whatever begins a fair order goes on to one at least.
        if len(orders) > MOST_ORDERS:
            raise TooMany(MOST_ORDERS)
    return tuple(orders)


def idle(model):
    """That the sums of a model are the same in all fair orders, or a certificate that they are not."""
    check_model(model)
    terms = model.formula.terms
    columns = integer_columns(model)[0]
    rests = [own_rests(model, columns, term) for term in terms]
    pairs = [(left, right) for right in range(len(terms)) for left in range(right)]
    # Of the terms that are held nothing may stand in between, so those with the fewest names are looked at first.
    for _, left, right in sorted([(len(terms[left]) + len(terms[right]), left, right) for left, right in pairs]):
        for row in rests[left]:
            if not is_square_to_all(row, rests[right]):
                return hanging_orders(model, terms[left], terms[right], row)
    return ("idle",)


def hanging_orders(model, one, other, row):
    """The certificate for two terms, and a row of the own part of the first that is not square to the other's."""
    terms = model.formula.terms
    ahead = held_terms(model, one) + held_terms(model, other)
    start = tuple([term for term in terms if term in ahead])
    end = tuple([term for term in terms if term not in ahead and term not in (one, other)])
    return "hangs", one, other, led_row(row), start + (one, other) + end, start + (other, one) + end


def is_hanging(model, value):
    """Whether the value shows that the sums of a model are not the same in all fair orders."""
    check_model(model)
    if not isinstance(value, tuple) or len(value) != 6 or value[0] != "hangs":
        return False
    _, one, other, vector, first, second = value
    if not is_fair_pair(model, one, other, first, second) or not is_row(vector, len(model.kept)):
        return False
    columns = integer_columns(model)[0]
    side = scaled(vector)[0]
    if not is_in_own_part(model, columns, one, side):
        return False
    return sum_parts_of(model, columns, one, first, side) != sum_parts_of(model, columns, one, second, side)


def is_fair_pair(model, one, other, first, second):
    """Whether these are two fair orders that differ only in two neighbours."""
    for order in (first, second):
        if not is_order(order, model.formula) or not is_fair_order(order, model.kinds):
            return False
    if one not in first or other not in first or first.index(other) != first.index(one) + 1:
        return False
    at = first.index(one)
    return second == first[:at] + (other, one) + first[at + 2:]


def sum_parts_of(model, columns, term, order, side):
    """The sum of a term in an order with a row of integers as the response, in lowest terms."""
    groups = added_places(model, order)
    at = order.index(term)
    ahead = [place for group in groups[:at] for place in group]
    lefts = lefts_of([columns[place] for place in ahead + groups[at]], side)
    top, bottom = lessened_pair(lefts[len(ahead)], lefts[-1])
    return lowest_terms(top, bottom)
