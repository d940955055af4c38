"""What rows of integers leave of others: the squares that are left behind them, and the rests."""

from math import gcd

from worthstead.exact.solving import base_of_integers, columns_of, common_bottom, product_of, solved, tops_over


def lefts_of(columns, side):
    """What the first 0, 1, .. of the columns leave of the square of a side, as pairs of a top and a bottom."""
    vectors = columns + [side]
    rows = [[product_of(one, other) for other in vectors[at:]] for at, one in enumerate(vectors)]
    found = [(rows[-1][0], 1)]
    lead = 1
    for _ in columns:
        pivot = rows[0][0]
        if pivot:
            rows = lessened_rows(rows, lead)
            lead = pivot
        else:
            # A column that the ones ahead make leaves 0 everywhere.
            rows = rows[1:]
        found.append((rows[-1][0], lead))
    return found


def lessened_rows(rows, lead):
    """A step of an elimination without fractions on the upper half of a square that is equal to itself turned."""
    first = rows[0]
    return [
        [(first[0] * entry - first[at] * other) // lead for entry, other in zip(row, first[at:])]
        for at, row in enumerate(rows)
        if at > 0
    ]


def is_made(columns, side):
    """Whether a side is a sum of multiples of the columns."""
    return lefts_of(columns, side)[-1][0] == 0


def is_square_to_all(row, others):
    """Whether the products of a row with all others are 0."""
    return not any([product_of(row, other) for other in others])


def weights_behind(columns, sides, bits):
    """The indices of the base of the columns and, for each side, the weights with which the base is nearest to it.

    The weights are pairs; where bits are told, TooMany is raised if one of them is surely longer.
    """
    width = len(sides[0]) if sides else 0
    base = base_of_integers(columns, width)[0]
    kept = [columns[index] for index in base]
    square = [[product_of(one, other) for other in kept] for one in kept]
    return base, solved(square, [[product_of(one, side) for one in kept] for side in sides], bits)


def rests_behind(rows, columns):
    """Rows of integers, none of them a sum of those ahead, that span the rests of rows behind some columns."""
    if not rows:
        return []
    width = len(rows[0])
    base, found = weights_behind(columns, rows, None)
    kept = columns_of([columns[index] for index in base], width)
    rests = [shortened(rest_of(row, kept, weights)) for row, weights in zip(rows, found)]
    return [rests[index] for index in base_of_integers(rests, width)[0]]


def rest_of(row, columns, weights):
    """A row less the rows with these columns times their weights, over a common bottom."""
    bottom = common_bottom(weights)
    tops = tops_over(weights, bottom)
    return [bottom * entry - product_of(tops, column) for entry, column in zip(row, columns)]


def shortened(row):
    """The row divided by the greatest integer that divides all of its entries."""
    shared = 0
    for entry in row:
        shared = gcd(shared, entry)
    return [entry // shared for entry in row] if shared else row
