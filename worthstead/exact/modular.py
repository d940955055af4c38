"""Rows of integers modulo a prime."""

# Each prime is 2 ** power - 1. One that divides a number that matters is of no use there; then the next one is taken.
POWERS = (127, 521, 1279, 2203, 2281, 3217, 4253, 4423, 9689, 9941, 11213, 19937)
USUAL = 521


def primes_above(bits):
    """The primes to take one after the other, the first one of more bits than told unless it would be long."""
    enough = [power for power in POWERS if bits < power <= USUAL]
    first = enough[0] if enough else USUAL
    return [(1 << power) - 1 for power in POWERS if power >= first]


def inverse_of(number, prime):
    """The number whose product with this one leaves 1; the number is no multiple of the prime."""
    low = number % prime
    high = prime
    one = 1
    other = 0
    while low:
        many = high // low
        low, high = high - many * low, low
        one, other = other - many * one, one
    return other % prime


def first_place(row):
    """The index of the first entry other than 0, or None."""
    for place, entry in enumerate(row):
        if entry:
            return place
    return None


def lessened(row, factor, other, prime):
    """The row less a multiple of another one."""
    return [(one - factor * two) % prime for one, two in zip(row, other)]


def remaining(row, places, kept, prime):
    """The row less the multiples of kept rows that leave 0 at the places of these."""
    rest = [entry % prime for entry in row]
    for place, other in zip(places, kept):
        if rest[place]:
            rest = lessened(rest, rest[place], other, prime)
    return rest


def base_modulo(rows, width, prime):
    """The indices of the rows that are no sums of rows ahead, and for each a place that it adds."""
    base = []
    places = []
    kept = []
    for index, row in enumerate(rows):
        if len(base) == width:
            break
        rest = remaining(row, places, kept, prime)
        place = first_place(rest)
        if place is not None:
            inverse = inverse_of(rest[place], prime)
            base.append(index)
            places.append(place)
            kept.append([entry * inverse % prime for entry in rest])
    return base, places


def beside_ones(square):
    """The rows of a square, each with the row of the same index of the square of ones behind it."""
    size = len(square)
    return [list(row) + [int(place == index) for place in range(size)] for index, row in enumerate(square)]


def inverted(square, prime):
    """The rows of the inverse of a square, or None if there is none modulo the prime."""
    size = len(square)
    rows = [[entry % prime for entry in row] for row in beside_ones(square)]
    for place in range(size):
        found = [index for index in range(place, size) if rows[index][place]]
        if not found:
            return None
        lead = rows[found[0]]
        inverse = inverse_of(lead[place], prime)
        lead = [entry * inverse % prime for entry in lead]
        rows[found[0]] = rows[place]
        rows[place] = lead
        for index in range(size):
            if index != place and rows[index][place]:
                rows[index] = lessened(rows[index], rows[index][place], lead, prime)
    return [row[size:] for row in rows]
