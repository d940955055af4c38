"""What the terms of a model add, by the columns that come with them."""

from worthstead.exact.leaving import is_made, is_square_to_all, lefts_of, rests_behind
from worthstead.fits.ordering import is_held_term
from worthstead.models.forms import places_of_term


def places_of(model, terms):
    """The ascending list of the indices of the columns of some terms."""
    names = model.names
    kinds = model.kinds
    return sorted(set([place for term in terms for place in places_of_term(names, term, kinds)]))


def added_places(model, order):
    """For each term of an order the indices of its columns that no term ahead has."""
    names = model.names
    kinds = model.kinds
    seen = []
    groups = []
    for term in order:
        group = [place for place in places_of_term(names, term, kinds) if place not in seen]
        seen = seen + group
        groups.append(group)
    return groups


def sums_along(columns, groups, side):
    """The pairs of what each group of columns takes of what the groups ahead leave of a side, and of what is left."""
    lefts = lefts_of([columns[place] for group in groups for place in group], side)
    found = []
    at = 0
    for group in groups:
        found.append(lessened_pair(lefts[at], lefts[at + len(group)]))
        at = at + len(group)
    return found + [lefts[-1]]


def lessened_pair(one, other):
    """The difference of two pairs, as a pair."""
    return one[0] * other[1] - other[0] * one[1], one[1] * other[1]


def pairs_over(pairs, bottom):
    """The pairs divided by the square of a bottom."""
    return [(top, below * bottom * bottom) for top, below in pairs]


def held_terms(model, term):
    """The terms of the formula that a term holds."""
    kinds = model.kinds
    return [other for other in model.formula.terms if is_held_term(other, term, kinds)]


def terms_apart(model, term):
    """All other terms of the formula that do not hold a term."""
    kinds = model.kinds
    return [other for other in model.formula.terms if other != term and not is_held_term(term, other, kinds)]


def rests_of_term(model, columns, term, others):
    """Rows of integers that span what a term adds behind some other terms; the columns are those of the model."""
    behind = places_of(model, others)
    # What the others have, too, leaves nothing.
    rows = [columns[place] for place in places_of(model, [term]) if place not in behind]
    return rests_behind(rows, [columns[place] for place in behind])


def own_rests(model, columns, term):
    """Rows of integers that span the own part of a term."""
    return rests_of_term(model, columns, term, held_terms(model, term))


def is_in_own_part(model, columns, term, row):
    """Whether a row of integers is in the own part of a term; the columns are those of the model."""
    held = held_terms(model, term)
    if not is_square_to_all(row, [columns[place] for place in places_of(model, held)]):
        return False
    return is_made([columns[place] for place in places_of(model, held + [term])], row)
