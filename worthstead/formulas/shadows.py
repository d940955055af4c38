"""Shadows of formulas: what they span, whatever the table."""

from worthstead.errors import InvalidFormula, Refused, UnknownName
from worthstead.exact.ratios import is_between, is_plain_int
from worthstead.formulas.formulas import MAX_NAMES, Formula, check_formula
from worthstead.formulas.terms import names_of
from worthstead.names import is_name

KINDS = ("factor", "number")
MOST_ROWS = 512


def shadow_of(formula, kinds):
    """The pairs that the terms of a formula hold, in order."""
    check_formula(formula)
    check_kinds([formula], kinds)
    return tuple(pairs_held(formula, kinds))


def is_alike(one, other, kinds):
    """Whether two formulas have equal shadows."""
    check_both(one, other, kinds)
    return pairs_held(one, kinds) == pairs_held(other, kinds)


def parted(one, other, kinds):
    """That two formulas are alike, or rows and weights that show that they are not."""
    check_both(one, other, kinds)
    names = joint_names(one, other)
    left = pairs_held(one, kinds)
    right = pairs_held(other, kinds)
    alone = in_order([pair for pair in left if pair not in right] + [pair for pair in right if pair not in left])
    if not alone:
        return ("alike",)
    pair = alone[0]
    choices = all_choices(len(pair[0]) + len(pair[1]))
    rows = [row_of(names, sorted(pair[0] + pair[1]), choice) for choice in choices]
    weights = [sign_of(choice) for choice in choices]
    return "parted", "one" if pair in left else "other", pair, tuple(rows), tuple(weights)


def is_parted(one, other, kinds, value):
    """Whether the value shows that two formulas are alike, or that they are not."""
    check_both(one, other, kinds)
    names = joint_names(one, other)
    left = pairs_held(one, kinds)
    right = pairs_held(other, kinds)
    if not isinstance(value, tuple):
        return False
    if len(value) == 1:
        return value[0] == "alike" and left == right
    if len(value) != 5 or value[0] != "parted" or value[1] not in ("one", "other"):
        return False
    having, lacking = (left, right) if value[1] == "one" else (right, left)
    _, _, pair, rows, weights = value
    if pair not in having or not are_rows(rows, names) or not are_weights(weights, len(rows)):
        return False
    return not is_square(pair, rows, weights) and all([is_square(lack, rows, weights) for lack in lacking])


def plain(formula, kinds):
    """The formula of the highest pairs of a shadow."""
    check_formula(formula)
    check_kinds([formula], kinds)
    return formula_of(pairs_held(formula, kinds), formula.response)


def met(one, other, kinds):
    """The formula of the highest pairs of what two shadows have in common."""
    check_both(one, other, kinds)
    there = {pair: True for pair in pairs_held(other, kinds)}
    return formula_of([pair for pair in pairs_held(one, kinds) if pair in there], one.response)


def joint(one, other, kinds):
    """The formula of the highest pairs of what one of two shadows has."""
    check_both(one, other, kinds)
    return formula_of(in_order(pairs_held(one, kinds) + pairs_held(other, kinds)), one.response)


def check_both(one, other, kinds):
    """Raise an error unless two formulas and their kinds are right."""
    check_formula(one)
    check_formula(other)
    check_kinds([one, other], kinds)


def is_kinds(value):
    """Whether the value is a dict from names to kinds."""
    return isinstance(value, dict) and all([is_name(name) and value[name] in KINDS for name in value])


def check_kinds(formulas, kinds):
    """Raise an error unless kinds are told for all names of the terms of some formulas."""
    if not is_kinds(kinds):
        raise InvalidFormula("this is no dict from names to kinds")
    for name in names_of([formula.names for formula in formulas]):
        if name not in kinds:
            raise UnknownName(name)


def joint_names(one, other):
    """The ascending names of the terms of two formulas, unless they are too many to be parted."""
    names = names_of([one.names, other.names])
    if len(names) > MAX_NAMES:
        raise Refused(("names",))
    return names


def parts_of(names):
    """All ascending tuples of some of these ascending names."""
    parts = [()]
    for name in names:
        parts = parts + [part + (name,) for part in parts]
    return parts


def pair_of(term, kinds):
    """The numbers and the factors of a term."""
    numbers = tuple([name for name in term if kinds[name] == "number"])
    return numbers, tuple([name for name in term if kinds[name] == "factor"])


def pairs_held(formula, kinds):
    """The list of the pairs that the terms hold, in order."""
    pairs = []
    for numbers, factors in [pair_of(term, kinds) for term in formula.terms]:
        pairs = pairs + [(numbers, part) for part in parts_of(factors)]
    return in_order(pairs)


def in_order(pairs):
    """The different ones of some pairs, by their numbers of names, then by the names."""
    return [(numbers, factors) for _, numbers, factors in sorted(set([(len(n) + len(s), n, s) for n, s in pairs]))]


def is_held_by(pair, other):
    """Whether the other pair holds this one."""
    return pair[0] == other[0] and all([name in other[1] for name in pair[1]])


def formula_of(pairs, response):
    """The formula of the highest of some pairs in order."""
    highest = [pair for pair in pairs if not any([is_held_by(pair, other) and pair != other for other in pairs])]
    return Formula(tuple([tuple(sorted(pair[0] + pair[1])) for pair in highest]), response=response)


def all_choices(many):
    """All tuples of so many zeros and ones, ascending."""
    choices = [()]
    for _ in range(many):
        choices = [choice + (worth,) for choice in choices for worth in (0, 1)]
    return choices


def row_of(names, chosen, choice):
    """The row that gives a choice to the chosen names, and 0 to all others."""
    worths = {name: worth for name, worth in zip(chosen, choice)}
    return {name: worths.get(name, 0) for name in names}


def sign_of(choice):
    """The product of 1 for each 1, and of -1 for each 0."""
    return -1 if len([worth for worth in choice if worth == 0]) & 1 else 1


def are_rows(value, names):
    """Whether the value is a tuple of dicts that give 0 or 1 to just these names."""
    if not isinstance(value, tuple) or not 1 <= len(value) <= MOST_ROWS:
        return False
    return all([is_worths(row, names) for row in value])


def is_worths(value, names):
    """Whether the value is a dict that gives 0 or 1 to just these names."""
    if not isinstance(value, dict) or len(value) != len(names):
        return False
    return all([name in value and is_between(value[name], 0, 1) for name in names])


def are_weights(value, many):
    """Whether the value is a tuple of so many integers."""
    return isinstance(value, tuple) and len(value) == many and all([is_plain_int(one) for one in value])


def is_square(pair, rows, weights):
    """Whether weights are square to all full columns of a pair in some rows."""
    sums = {}
    for row, weight in zip(rows, weights):
        if all([row[name] for name in pair[0]]):
            # Each choice of levels has a column of its own, in which the rows of other levels have 0.
            levels = tuple([row[name] for name in pair[1]])
            sums[levels] = sums.get(levels, 0) + weight
    return not any(list(sums.values()))
