"""Orders of the terms of a formula, and which terms hold which."""

from worthstead.formulas.shadows import is_held_by, pair_of


def is_held_term(one, other, kinds):
    """Whether a term is held by another one."""
    if one == other:
        return False
    return one == () or is_held_by(pair_of(one, kinds), pair_of(other, kinds))


def is_order(value, formula):
    """Whether the value is a tuple of all terms of the formula, each once."""
    if not isinstance(value, tuple) or len(value) != len(formula):
        return False
    return all([term in value for term in formula.terms])


def is_fair_order(order, kinds):
    """Whether each term of an order stands behind all terms that it holds."""
    for at, term in enumerate(order):
        if any([is_held_term(later, term, kinds) for later in order[at + 1:]]):
            return False
    return True
