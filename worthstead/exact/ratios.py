"""Exact fractions."""

from math import gcd

from worthstead.errors import InvalidNumber, InvalidRatio, ParseError, TooMany
from worthstead.exact.digits import is_longer
from worthstead.names import DIGITS

MAX_FIGURES = 60
MAX_DIGITS = 2000


class Ratio:
    """An exact fraction in lowest terms; it never changes."""

    def __init__(self, top, bottom=1):
        if not is_plain_int(top):
            raise InvalidNumber(top)
        if not is_plain_int(bottom) or bottom == 0:
            raise InvalidNumber(bottom)
        self._top, self._bottom = lowest_terms(top, bottom)

    @property
    def top(self):
        """The integer above."""
        return self._top

    @property
    def bottom(self):
        """The integer below, at least 1."""
        return self._bottom

    @classmethod
    def of_text(cls, text):
        """The ratio with a text."""
        if not isinstance(text, str):
            raise ParseError(None)
        spot = wrong_spot(text)
        if spot is not None:
            raise ParseError(spot)
        return ratio_read(text)

    def __add__(self, other):
        if not isinstance(other, Ratio):
            return NotImplemented
        return ratio_of(self._top * other._bottom + other._top * self._bottom, self._bottom * other._bottom)

    def __sub__(self, other):
        if not isinstance(other, Ratio):
            return NotImplemented
        return ratio_of(self._top * other._bottom - other._top * self._bottom, self._bottom * other._bottom)

    def __mul__(self, other):
        if not isinstance(other, Ratio):
            return NotImplemented
        return ratio_of(self._top * other._top, self._bottom * other._bottom)

    def __neg__(self):
        return ratio_of(-self._top, self._bottom)

    def __abs__(self):
        return ratio_of(abs(self._top), self._bottom)

    def __bool__(self):
        return bool(self._top)

    def __eq__(self, other):
        return isinstance(other, Ratio) and self._top == other._top and self._bottom == other._bottom

    def __str__(self):
        if self._bottom == 1:
            return str(self._top)
        return f"{self._top}/{self._bottom}"

    def over(self, other):
        """The quotient of both."""
        if not isinstance(other, Ratio):
            raise InvalidRatio("what divides is no ratio")
        if other._top == 0:
            raise ZeroDivisionError("a ratio is divided by 0")
        return ratio_of(self._top * other._bottom, self._bottom * other._top)

    def is_less(self, other):
        """Whether the ratio is less than the other one."""
        if not isinstance(other, Ratio):
            raise InvalidRatio("what is compared is no ratio")
        return self._top * other._bottom < other._top * self._bottom


def is_plain_int(value):
    """Whether the value is an integer that may be passed."""
    return isinstance(value, int) and not isinstance(value, bool) and not is_longer(value, MAX_FIGURES)


def is_between(value, low, high):
    """Whether the value is an integer from one bound to the other."""
    return is_plain_int(value) and low <= value <= high


def lowest_terms(top, bottom):
    """The same fraction in lowest terms, with a bottom of at least 1."""
    shared = gcd(top, bottom)
    if bottom < 0:
        shared = -shared
    return top // shared, bottom // shared


def ratio_of(top, bottom):
    """The ratio of two integers of any length, as far as the ratio itself may be kept."""
    top, bottom = lowest_terms(top, bottom)
    if is_longer(top, MAX_DIGITS) or is_longer(bottom, MAX_DIGITS):
        raise TooMany(MAX_DIGITS)
    made = Ratio(0)
    made._top = top
    made._bottom = bottom
    return made


def digits_end(text, start):
    """The index behind the digits that can stand from an index on, at most 2000, no 0 first."""
    end = start
    while end < len(text) and end < start + MAX_DIGITS and text[end] in DIGITS and text[start] != "0":
        end += 1
    return end


def wrong_spot(text):
    """The index at which a text stops being that of a ratio; None for the text of one."""
    start = 1 if text[:1] == "-" else 0
    if text[start:start + 1] == "0":
        # A sign cannot stand ahead of 0, and nothing can stand behind it.
        return None if text == "0" else 1
    slash = digits_end(text, start)
    if slash == start or text[slash:slash + 1] != "/":
        return None if start < slash == len(text) else slash
    end = digits_end(text, slash + 1)
    if end == slash + 1 or end < len(text):
        return end
    bottom = int(text[slash + 1:])
    return slash + 1 if bottom == 1 or gcd(int(text[:slash]), bottom) > 1 else None


def ratio_read(text):
    """The ratio of a text that is one."""
    top, _, bottom = text.partition("/")
    return ratio_of(int(top), int(bottom) if bottom else 1)


def is_ratio(value):
    """Whether the value is a ratio."""
    return isinstance(value, Ratio)


def are_ratios(value):
    """Whether the value is a tuple of ratios."""
    return isinstance(value, tuple) and all([is_ratio(one) for one in value])


def sum_parts(ratios):
    """The top and the bottom of the sum of ratios, of any length."""
    top, bottom = 0, 1
    for one in ratios:
        shared = gcd(bottom, one.bottom)
        top = top * (one.bottom // shared) + one.top * (bottom // shared)
        bottom = bottom * (one.bottom // shared)
    return top, bottom


def total(ratios):
    """The sum of a tuple of ratios."""
    if not are_ratios(ratios):
        raise InvalidRatio("what is summed is no tuple of ratios")
    top, bottom = sum_parts(ratios)
    return ratio_of(top, bottom)


def mean(ratios):
    """The sum of a tuple of one or more ratios, divided by their number."""
    if not are_ratios(ratios) or not ratios:
        raise InvalidRatio("there is a mean of one or more ratios only")
    top, bottom = sum_parts(ratios)
    return ratio_of(top, bottom * len(ratios))


def size_keys(ratios):
    """An integer for each ratio; they are ordered as the ratios are."""
    most = max([one.bottom for one in ratios], default=1)
    # Unlike ratios are at least 1 / most ** 2 apart, so their keys differ.
    scale = most ** 2
    return [one.top * scale // one.bottom for one in ratios]
