"""Words modulo a prime: multiples, sums, and what they leave behind others."""

PRIMES = (2, 3, 5, 7)
MOST_FACTORS = 8


def multiple(p, word, by):
    """The multiple of a word."""
    return tuple([entry * by % p for entry in word])


def added(p, word, other, by):
    """The sum of a word and a multiple of another one."""
    return tuple([(one + by * two) % p for one, two in zip(word, other)])


def lead_of(word):
    """The place of the first entry other than 0; the number of entries if there is none."""
    for place, entry in enumerate(word):
        if entry:
            return place
    return len(word)


def inverse_of(p, number):
    """The number whose product with this one leaves 1."""
    return [other for other in range(1, p) if number * other % p == 1][0]


def normal_of(p, word):
    """The multiple whose first entry other than 0 is 1; the zero word itself."""
    lead = lead_of(word)
    return word if lead == len(word) else multiple(p, word, inverse_of(p, word[lead]))


def remainder(p, word, rows):
    """The word less the multiples of reduced words that leave 0 at the places of their leads."""
    rest = word
    for row in rows:
        lead = lead_of(row)
        if rest[lead]:
            rest = added(p, rest, row, -rest[lead])
    return rest


def reduced_words(p, many, words):
    """The reduced words, by their first so many entries, that those words add up to which do not hang.

    With them comes the index of the first word whose first entries hang on those ahead, or None.
    """
    kept = []
    hangs = None
    for index, word in enumerate(words):
        rest = remainder(p, word, kept)
        lead = lead_of(rest)
        if lead < many:
            rest = normal_of(p, rest)
            kept = [added(p, row, rest, -row[lead]) for row in kept] + [rest]
        elif hangs is None:
            hangs = index
    ordered = sorted([(lead_of(row), row) for row in kept])
    return tuple([row for _, row in ordered]), hangs


def sums_of_words(p, many, words):
    """All sums of multiples of words of so many entries, each as often as it comes about."""
    found = [(0,) * many]
    for word in words:
        multiples = [multiple(p, word, by) for by in range(p)]
        found = [added(p, one, other, 1) for one in found for other in multiples]
    return found


def power_of(base, exponent):
    """The base, so many times with itself."""
    found = 1
    for _ in range(exponent):
        found = found * base
    return found


def class_total(p, dimension):
    """How many classes a space of words of a dimension has."""
    return (power_of(p, dimension) - 1) // (p - 1)


def is_normal(word):
    """Whether the first entry other than 0 of a word is 1."""
    lead = lead_of(word)
    return lead < len(word) and word[lead] == 1


def all_words(p, many):
    """All words for so many factors, ascending."""
    found = [()]
    for _ in range(many):
        found = [word + (entry,) for word in found for entry in range(p)]
    return found


def normal_words(p, many):
    """The normal words of all classes for so many factors, ascending."""
    found = []
    for lead in range(many - 1, -1, -1):
        start = (0,) * lead + (1,)
        found = found + [start + end for end in all_words(p, many - lead - 1)]
    return found
