"""Plain elimination with fractions, to compare with."""

from fractions import Fraction

from tests.support import fraction
from worthstead.exact.ratios import Ratio
from worthstead.exact.spaces import Space


def reduced(rows, width):
    """The reduced rows and their leading places."""
    rows = [list(one) for one in rows]
    leads = []
    for place in range(width):
        found = [index for index in range(len(leads), len(rows)) if rows[index][place]]
        if found:
            at = len(leads)
            rows[at], rows[found[0]] = rows[found[0]], rows[at]
            rows[at] = [entry / rows[at][place] for entry in rows[at]]
            for index, other in enumerate(rows):
                if index != at and other[place]:
                    rows[index] = [one - other[place] * two for one, two in zip(other, rows[at])]
            leads.append(place)
    return rows[: len(leads)], leads


def rank(rows, width):
    return len(reduced(rows, width)[1])


def base(rows, width):
    return tuple(at for at in range(len(rows)) if rank(rows[: at + 1], width) > rank(rows[:at], width))


def as_fractions(rows):
    return [[fraction(one) for one in row] for row in rows]


def as_ratios(rows):
    return tuple(tuple(Ratio(one.numerator, one.denominator) for one in row) for row in rows)


def random_rows(rng, many, width, most_rank, size, is_whole):
    """Rows of which many are sums of others."""

    def entry():
        if rng.random() < 0.2:
            return Fraction(0)
        return Fraction(rng.randint(-size, size), 1 if is_whole else rng.randint(1, size))

    lead = [[entry() for _ in range(width)] for _ in range(most_rank)]
    rows = []
    for _ in range(many):
        weights = [rng.randint(-2, 2) if rng.random() < 0.9 else 0 for _ in lead]
        rows.append([sum((w * one[at] for w, one in zip(weights, lead)), Fraction(0)) for at in range(width)])
    return rows


def product(one, other):
    return sum((left * right for left, right in zip(one, other)), Fraction(0))


def square(one):
    return product(one, one)


def orthogonal(vectors):
    """Rows square to one another with the same sums as the vectors."""
    found = []
    for vector in vectors:
        rest = less(vector, part(found, vector))
        if any(rest):
            found.append(rest)
    return found


def part(orthogonals, side):
    """The part of a side in the space of rows that are square to one another."""
    whole = [Fraction(0)] * len(side)
    for one in orthogonals:
        factor = product(one, side) / square(one)
        whole = [left + factor * right for left, right in zip(whole, one)]
    return whole


def less(one, other):
    return [left - right for left, right in zip(one, other)]


def rests(vectors, others):
    """Rows square to one another that span what the vectors add behind the others."""
    behind = orthogonal(others)
    return orthogonal([less(vector, part(behind, vector)) for vector in vectors])


def as_space(vectors, width):
    """The space of rows of fractions."""
    return Space(width, as_ratios(reduced(vectors, width)[0]))
