"""Rows of integers of any length: which are sums of others, and with which weights.

Weights are found modulo a prime and lifted to higher and higher powers of it. So it costs little where they are
short, however long the numbers are that a plain elimination would meet on the way.
"""

from math import gcd, isqrt, lcm

from worthstead.errors import TooMany
from worthstead.exact.modular import base_modulo, inverted, primes_above
from worthstead.exact.ratios import MAX_DIGITS, lowest_terms

# Fractions this many bits shorter than a modulus allows are right, but for chance; all are checked nevertheless.
SPARE_BITS = 66
# 2 ** 6644 is greater than 10 ** 2000.
LIMIT_BITS = 6644


def product_of(one, other):
    """The sum of the products of the entries of two rows."""
    return sum([left * right for left, right in zip(one, other)])


def columns_of(rows, width):
    """The columns of rows of a width."""
    return [[row[place] for row in rows] for place in range(width)]


def common_bottom(pairs):
    """The least number that all bottoms divide."""
    shared = 1
    for _, bottom in pairs:
        shared = lcm(shared, bottom)
    return shared


def tops_over(pairs, bottom):
    """The tops of fractions over a common bottom."""
    return [top * (bottom // below) for top, below in pairs]


def longest_of(row):
    """The number of bits of the longest entry."""
    return max([entry.bit_length() for entry in row], default=0)


def minor_bits(rows, width):
    """More bits than any minor of the rows can have."""
    # By Hadamard, a minor is at most the product of the lengths of its rows.
    bits = sorted([longest_of(row) + width.bit_length() // 2 + 1 for row in rows], reverse=True)
    return sum(bits[:width]) + 1


def picked_square(rows, indices, places):
    """The entries of some rows at some places."""
    return [[rows[index][place] for place in places] for index in indices]


def is_sum(columns, weights, row):
    """Whether a row is the sum of the rows with these columns and weights, which are pairs of integers."""
    bottom = common_bottom(weights)
    tops = tops_over(weights, bottom)
    return all([product_of(tops, column) == bottom * entry for column, entry in zip(columns, row)])


def base_of_integers(rows, width):
    """The indices of the rows that are no sums of rows ahead, and for each a place that it adds."""
    bits = minor_bits(rows, width)
    for prime in primes_above(bits):
        base, places = base_modulo(rows, width, prime)
        # What is no sum modulo a prime is none; that the others are sums must be shown if the prime can divide minors.
        if prime.bit_length() > bits or are_sums(rows, width, base, places):
            return base, places
    # Only numbers that were put together from all the primes lead here.
    raise TooMany(MAX_DIGITS)


def are_sums(rows, width, base, places):
    """Whether the rows that are not in the base are sums of base rows ahead of them."""
    # Behind a base that spans all rows of the width there is nothing left to show.
    end = base[-1] if base and len(base) == width else len(rows)
    others = [index for index in range(end) if index not in base]
    columns = columns_of([rows[index] for index in base], width)
    found = solved(picked_square(rows, base, places), picked_square(rows, others, places), None)
    for index, weights in zip(others, found):
        late = [top for (top, _), other in zip(weights, base) if other > index]
        if any(late) or not is_sum(columns, weights, rows[index]):
            return False
    return True


def sums_of_integers(rows, width, bits):
    """The base, and the dict from the indices of the other rows to their weights, pairs of a top and a bottom.

    If bits are told, TooMany is raised where a weight is surely longer above or below.
    """
    base, places = base_of_integers(rows, width)
    others = [index for index in range(len(rows)) if index not in base]
    found = solved(picked_square(rows, base, places), picked_square(rows, others, places), bits)
    return base, {index: weights for index, weights in zip(others, found)}


def solved(square, sides, bits):
    """For each side the weights with which the rows of a square make it; bits as for sums_of_integers."""
    if not sides:
        return []
    size = len(square)
    wanted = 2 * (minor_bits(square, size) + max([longest_of(side) for side in sides])) + SPARE_BITS
    for prime in primes_above(wanted):
        inverse = inverted(square, prime)
        if inverse is not None:
            columns = columns_of(square, size)
            backs = columns_of(inverse, size)
            return [lifted(columns, backs, side, prime, bits) for side in sides]
    raise TooMany(MAX_DIGITS)


def lifted(columns, backs, side, prime, bits):
    """The weights for one side, from the columns of the square and of its inverse modulo the prime."""
    found = [0] * len(side)
    rest = list(side)
    modulus = 1
    steps = 1
    while True:
        for _ in range(steps):
            low = [entry % prime for entry in rest]
            digits = [product_of(low, back) % prime for back in backs]
            found = [one + modulus * digit for one, digit in zip(found, digits)]
            rest = [(entry - product_of(digits, column)) // prime for entry, column in zip(rest, columns)]
            modulus = modulus * prime
        weights = rebuilt(found, modulus)
        if weights is not None and is_sum(columns, weights, side):
            return weights
        if bits is not None and modulus.bit_length() > 2 * bits + SPARE_BITS + 4:
            raise TooMany(MAX_DIGITS)
        steps = 2 * steps


def rebuilt(found, modulus):
    """The short fractions that are these numbers by the modulus, or None if one is not short."""
    most = isqrt(modulus >> SPARE_BITS)
    shared = 1
    weights = []
    for number in found:
        # Most weights have a common bottom, so that of those ahead is tried first.
        top = number * shared % modulus
        if 2 * top > modulus:
            top = top - modulus
        pair = (top, shared) if abs(top) <= most else short_fraction(number, modulus, most)
        if pair is None:
            return None
        top, bottom = lowest_terms(pair[0], pair[1])
        weights.append((top, bottom))
        longer = lcm(shared, bottom)
        if longer <= most:
            shared = longer
    return weights


def short_fraction(number, modulus, most):
    """The fraction that is this number by the modulus, with a top and a bottom up to a bound, or None."""
    high = modulus
    low = number
    other = 0
    one = 1
    while low > most:
        many = high // low
        high, low = low, high - many * low
        other, one = one, other - many * one
    if abs(one) > most or gcd(low, one) > 1:
        return None
    return low, one
