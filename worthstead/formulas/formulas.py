"""Formulas: terms in order, and perhaps a response."""

from worthstead.errors import InvalidFormula, Refused, TooMany, UnknownName
from worthstead.formulas.terms import formula_text, is_term, names_of
from worthstead.names import is_name

MAX_NAMES = 9
MAX_TERMS = 200


class Formula:
    """Different terms, ordered by their lengths, and perhaps a response; it never changes."""

    def __init__(self, terms, *, response=None):
        check_terms(terms)
        check_response(terms, response)
        if len(names_of(terms)) > MAX_NAMES:
            raise TooMany(MAX_NAMES)
        if len(terms) > MAX_TERMS:
            raise TooMany(MAX_TERMS)
        self._terms = tuple(sorted(terms, key=len))
        self._response = response

    @property
    def terms(self):
        """The tuple of the terms, by length, those of one length as they came about."""
        return self._terms

    @property
    def response(self):
        """The name of the response, or None."""
        return self._response

    @property
    def names(self):
        """The ascending tuple of the names of the terms."""
        return tuple(names_of(self._terms))

    def __add__(self, other):
        if not isinstance(other, Formula):
            return NotImplemented
        more = tuple([term for term in other._terms if term not in self._terms])
        return Formula(self._terms + more, response=self._response)

    def __sub__(self, other):
        if not isinstance(other, Formula):
            return NotImplemented
        return Formula(tuple([term for term in self._terms if term not in other._terms]), response=self._response)

    def __contains__(self, x):
        return x in self._terms

    def __len__(self):
        return len(self._terms)

    def __iter__(self):
        return iter(self._terms)

    def __eq__(self, other):
        return isinstance(other, Formula) and self._terms == other._terms and self._response == other._response

    def __str__(self):
        return str(formula_text(self._terms, self._response))

    def with_term(self, term):
        """The formula with one more term, which comes about last."""
        if not is_term(term):
            raise InvalidFormula("this is no term")
        if term in self._terms:
            raise Refused(("there", term))
        return Formula(self._terms + (term,), response=self._response)

    def without(self, term):
        """The formula without one of its terms."""
        if term not in self._terms:
            raise UnknownName(term)
        return Formula(tuple([other for other in self._terms if other != term]), response=self._response)


def check_terms(value):
    """Raise an error unless the value is a tuple of different terms."""
    if not isinstance(value, tuple) or not all([is_term(term) for term in value]):
        raise InvalidFormula("this is no tuple of terms")
    if len(set(value)) != len(value):
        raise InvalidFormula("a term stands twice")


def check_response(terms, value):
    """Raise an error unless the value is None, or a name that is in none of the terms."""
    if value is None:
        return
    if not is_name(value):
        raise InvalidFormula("the response is no name")
    if any([value in term for term in terms]):
        raise InvalidFormula("the response is in a term")


def check_formula(value):
    """Raise an error unless the value is a formula."""
    if not isinstance(value, Formula):
        raise InvalidFormula("this is no formula")
