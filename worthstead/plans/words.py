"""Words: tuples of entries modulo a prime, one for each of some factors."""

from worthstead.errors import InvalidNumber, InvalidWords, Refused, TooMany
from worthstead.exact.ratios import is_between, is_plain_int
from worthstead.plans.fields import (
    MOST_FACTORS,
    PRIMES,
    added,
    multiple,
    normal_of,
    power_of,
    reduced_words,
    sums_of_words,
)

MOST_ENTRY = 6
MOST_WORDS = 8
MOST_SUMS = 4096


def is_word(p, many, value):
    """Whether the value is a word for so many factors."""
    check_prime(p)
    check_many(many)
    return is_word_for(p, many, value)


def support(word):
    """The places of the entries other than 0."""
    if not is_some_word(MOST_ENTRY + 1, word):
        raise InvalidWords("this is no word")
    return support_of(word)


def normal(p, word):
    """The normal word of the class of a word."""
    check_prime(p)
    check_some_word(p, word)
    check_not_zero(word)
    return normal_of(p, word)


def times(p, word, by):
    """The multiple of a word by an integer."""
    check_prime(p)
    check_some_word(p, word)
    if not is_plain_int(by):
        raise InvalidNumber(by)
    return multiple(p, word, by)


def plus(p, word, other):
    """The sum of two words."""
    check_prime(p)
    check_some_word(p, word)
    check_word(p, len(word), other)
    return added(p, word, other, 1)


def span_of_words(p, many, words):
    """All sums of multiples of words, ascending."""
    check_prime(p)
    check_many(many)
    if not are_words(p, many, words) or len(words) > MOST_WORDS:
        raise InvalidWords("this is no tuple of not too many words")
    kept = reduced_words(p, many, words)[0]
    if power_of(p, len(kept)) > MOST_SUMS:
        raise TooMany(MOST_SUMS)
    return tuple(sorted(sums_of_words(p, many, kept)))


def reduced(p, many, rows):
    """The reduced rows that the same runs fulfil."""
    check_prime(p)
    check_many(many)
    if not are_rows_for(p, many, rows):
        raise InvalidWords("this is no tuple of not too many rows")
    return reduced_rows_of(p, many, rows)


def check_prime(value):
    """Raise an error unless the value is one of the primes."""
    if not is_plain_int(value) or value not in PRIMES:
        raise InvalidNumber(value)


def check_many(value):
    """Raise an error unless the value is a number of factors."""
    if not is_between(value, 1, MOST_FACTORS):
        raise InvalidNumber(value)


def is_word_for(p, many, value):
    """The same as of is_word, for a right prime and number of factors."""
    if not isinstance(value, tuple) or len(value) != many:
        return False
    return all([is_between(entry, 0, p - 1) for entry in value])


def is_some_word(p, value):
    """Whether the value is a word for any number of factors."""
    return isinstance(value, tuple) and 1 <= len(value) <= MOST_FACTORS and is_word_for(p, len(value), value)


def check_some_word(p, value):
    """Raise an error unless the value is a word for any number of factors."""
    if not is_some_word(p, value):
        raise InvalidWords("this is no word")


def check_word(p, many, value):
    """Raise an error unless the value is a word for so many factors."""
    if not is_word_for(p, many, value):
        raise InvalidWords("this is no word for these factors")


def check_not_zero(word):
    """Raise an error for the zero word."""
    if not any(word):
        raise InvalidWords("this is the zero word")


def are_words(p, many, value):
    """Whether the value is a tuple of words for so many factors."""
    return isinstance(value, tuple) and all([is_word_for(p, many, word) for word in value])


def are_rows_for(p, many, value):
    """Whether the value is a tuple of at most as many rows as factors, each a word and a side."""
    return isinstance(value, tuple) and len(value) <= many and all([is_row_for(p, many, row) for row in value])


def is_row_for(p, many, value):
    """Whether the value is a word for so many factors and a side."""
    if not isinstance(value, tuple) or len(value) != 2:
        return False
    return is_word_for(p, many, value[0]) and is_between(value[1], 0, p - 1)


def reduced_rows_of(p, many, rows):
    """The reduced rows of right rows, unless one of them hangs."""
    found, hangs = reduced_words(p, many, [word + (side,) for word, side in rows])
    if hangs is not None:
        raise Refused(("hangs", hangs))
    return tuple([(row[:many], row[many]) for row in found])


def support_of(word):
    """The places of the entries other than 0 of a word."""
    return tuple([place for place, entry in enumerate(word) if entry])


def side_of(p, word, run):
    """The sum of the products of the entries of a word with the levels of a run."""
    return sum([entry * level for entry, level in zip(word, run)]) % p
