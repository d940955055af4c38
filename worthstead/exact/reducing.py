"""Reduced rows, and the reduced rows of what is square to others, as rows of pairs of a top and a bottom."""

from worthstead.exact.scaling import scaled_alike
from worthstead.exact.solving import columns_of, common_bottom, product_of, solved, sums_of_integers, tops_over


def reduced_rows(rows, width, bits):
    """The reduced rows of rows of integers; bits as for sums_of_integers."""
    # A member of a reduced row is the weight of its column in the base of the columns.
    base, sums = sums_of_integers(columns_of(rows, width), len(rows), bits)
    found = []
    for at in range(len(base)):
        found.append([sums[place][at] if place in sums else (int(base[at] == place), 1) for place in range(width)])
    return found


def reduced_square(rows, width, bits):
    """The reduced rows of all rows of the width that are square to these rows of integers."""
    # Backwards, so that each column is made of those behind it, and its row begins with it.
    columns = columns_of(rows, width)[::-1]
    base, sums = sums_of_integers(columns, len(rows), bits)
    found = []
    for index in sorted(list(sums), reverse=True):
        row = [(0, 1)] * width
        row[width - 1 - index] = (1, 1)
        for other, (top, bottom) in zip(base, sums[index]):
            row[width - 1 - other] = (-top, bottom)
        found.append(row)
    return found


def multiples(weights, columns, bottom):
    """The row of pairs that rows of integers over a bottom add up to; their columns are passed."""
    below = common_bottom(weights)
    tops = tops_over(weights, below)
    return [(product_of(tops, column), below * bottom) for column in columns]


def square_within(inner, width, rows, bits):
    """The reduced rows of the sums of reduced rows of pairs that are square to rows of integers."""
    tops, bottom = scaled_alike(inner)
    products = [[product_of(one, row) for one in tops] for row in rows]
    columns = columns_of(tops, width)
    # Sums of reduced rows are reduced if their weights are: the weights are the members at the leading places.
    return [multiples(weights, columns, bottom) for weights in reduced_square(products, len(inner), bits)]


def part_within(inner, width, row, bits):
    """The part of a row of integers in the space of some reduced rows of pairs, as pairs."""
    tops, bottom = scaled_alike(inner)
    square = [[product_of(one, other) for other in tops] for one in tops]
    side = [product_of(one, row) for one in tops]
    # What is solved for are the members of the part at the leading places, divided by the bottom.
    weights = solved(square, [side], bits + bottom.bit_length())[0]
    return multiples(weights, columns_of(tops, width), 1)


def leading_places(rows):
    """The places of the first members other than 0 of reduced rows of pairs."""
    return [[top for top, _ in row].index(1) for row in rows]


def are_within(inner, width, rows):
    """Whether all rows of integers are sums of reduced rows of pairs."""
    tops, bottom = scaled_alike(inner)
    places = leading_places(inner)
    columns = columns_of(tops, width)
    for row in rows:
        lead = [row[place] for place in places]
        if not all([product_of(lead, column) == bottom * entry for column, entry in zip(columns, row)]):
            return False
    return True
