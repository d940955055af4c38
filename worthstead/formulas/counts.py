"""Numbers of columns, as polynomials in numbers of levels."""

from worthstead.errors import InvalidOperation, TooMany, UnknownName
from worthstead.exact.ratios import is_between, is_plain_int
from worthstead.formulas.shadows import parts_of, shadow_of
from worthstead.formulas.terms import names_of
from worthstead.names import are_ascending_names, is_name

MOST_PRODUCTS = 512
MOST_LEVELS = 1000


class Count:
    """A sum of products of factors with integers other than 0; it never changes."""

    def __init__(self, terms):
        if not are_products(terms) or len(terms) > MOST_PRODUCTS:
            raise InvalidOperation("this is no dict from products of factors to integers")
        self._terms = sorted_terms(terms)

    @property
    def terms(self):
        """The dict from the tuples of factors to the integers."""
        return {names: self._terms[names] for names in self._terms}

    def __add__(self, other):
        if not isinstance(other, Count):
            return NotImplemented
        return count_with(summed_terms(self._terms, other._terms, 1))

    def __sub__(self, other):
        if not isinstance(other, Count):
            return NotImplemented
        return count_with(summed_terms(self._terms, other._terms, -1))

    def __eq__(self, other):
        return isinstance(other, Count) and self._terms == other._terms

    def __str__(self):
        return str(count_text(self._terms))

    def __call__(self, levels):
        if not isinstance(levels, dict):
            raise InvalidOperation("this is no dict from names to numbers of levels")
        if not all([is_name(name) and is_between(levels[name], 1, MOST_LEVELS) for name in levels]):
            raise InvalidOperation("a number of levels is none")
        for name in names_of(list(self._terms)):
            if name not in levels:
                raise UnknownName(name)
        return sum([self._terms[names] * product_at(names, levels) for names in self._terms])


def count_of(formula, kinds):
    """The count of a formula."""
    found = {}
    for _, factors in shadow_of(formula, kinds):
        for part in parts_of(factors):
            # The product of levels less 1 has each part of the factors once, with a sign for each that it lacks.
            sign = -1 if (len(factors) - len(part)) & 1 else 1
            found[part] = found.get(part, 0) + sign
    return count_with(found)


def are_products(value):
    """Whether the value is a dict from ascending tuples of names to integers other than 0."""
    if not isinstance(value, dict):
        return False
    return all([are_ascending_names(names) and is_plain_int(value[names]) and value[names] != 0 for names in value])


def sorted_terms(terms):
    """The terms by ascending names, without those that count 0 times."""
    return {names: terms[names] for names in sorted(list(terms)) if terms[names]}


def summed_terms(one, other, sign):
    """The terms of a sum, or of a difference."""
    names = sorted(set(list(one) + list(other)))
    return {product: one.get(product, 0) + sign * other.get(product, 0) for product in names}


def count_with(terms):
    """The count with these terms, which may count 0 times, and whose integers may have any length."""
    left = sorted_terms(terms)
    if len(left) > MOST_PRODUCTS:
        raise TooMany(MOST_PRODUCTS)
    made = Count({})
    made._terms = left
    return made


def product_at(names, levels):
    """The product of the numbers of levels of some factors."""
    found = 1
    for name in names:
        found = found * levels[name]
    return found


def count_text(terms):
    """The products with their signs, those with more factors first."""
    if not terms:
        return "0"
    ordered = [names for _, names in sorted([(-len(names), names) for names in terms])]
    texts = [signed_text(names, terms[names]) for names in ordered]
    first = texts[0]
    start = first[2:] if first[0] == "+" else f"-{first[2:]}"
    return " ".join([start, *texts[1:]])


def signed_text(names, many):
    """A sign, a blank, and a product with its integer, which is left out if it is 1 and there are factors."""
    sign = "-" if many < 0 else "+"
    words = list(names)
    if abs(many) != 1 or not names:
        words = [str(abs(many)), *words]
    return f"{sign} {'*'.join(words)}"
