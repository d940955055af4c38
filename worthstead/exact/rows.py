"""Rows of ratios: which of them are sums of others, and which are not."""

from worthstead.errors import InvalidOperation, InvalidRows, TooMany
from worthstead.exact.ratios import are_ratios, ratio_of
from worthstead.exact.scaling import pairs_of, ratios_of, scaled, scaled_columns, scaled_rows
from worthstead.exact.solving import (
    LIMIT_BITS,
    base_of_integers,
    columns_of,
    is_sum,
    longest_of,
    picked_square,
    product_of,
    solved,
    sums_of_integers,
)

MAX_ROWS = 512
MOST_LONG = 64
ENTRY_DIGITS = 20
ENTRY_BOUND = 10 ** 20


def is_row(value, width):
    """Whether the value is a row of this width."""
    return are_ratios(value) and len(value) == width


def is_rows(value):
    """Whether the value is rows, however long they and their entries are."""
    if not isinstance(value, tuple) or len(value) > MAX_ROWS:
        return False
    if not all([are_ratios(row) and len(row) <= MAX_ROWS for row in value]):
        return False
    return all([len(row) == len(value[0]) for row in value])


def width_of(rows):
    """The width of rows, 0 if there are none."""
    return len(rows[0]) if rows else 0


def check_rows(value):
    """Raise an error unless the value is rows."""
    if not is_rows(value):
        raise InvalidRows("these are no rows")


def check_wanted(rows, wanted):
    """Raise an error unless the value is one more row."""
    if not are_ratios(wanted) or len(wanted) > MAX_ROWS or (rows and len(wanted) != len(rows[0])):
        raise InvalidRows("what is wanted is no row of this width")


def is_short(one):
    """Whether a ratio is short enough for an entry of rows."""
    return -ENTRY_BOUND < one.top < ENTRY_BOUND and one.bottom < ENTRY_BOUND


def check_bounds(several):
    """Raise an error if one of several rows is too many, or too long."""
    for rows in several:
        if len(rows) > MOST_LONG and width_of(rows) > MOST_LONG:
            raise TooMany(MOST_LONG)
    for rows in several:
        if not all([is_short(one) for row in rows for one in row]):
            raise TooMany(ENTRY_DIGITS)


def rank_of(rows):
    """The number of rows in the base."""
    return len(base_of(rows))


def base_of(rows):
    """The ascending tuple of the indices of the rows that are no sums of the rows ahead of them."""
    check_rows(rows)
    check_bounds([rows])
    width = width_of(rows)
    return tuple(base_of_integers(scaled_columns(rows, width)[0], width)[0])


def sums_of(rows):
    """The dict from the indices of the rows that are not in the base to their weights in it."""
    check_rows(rows)
    check_bounds([rows])
    width = width_of(rows)
    sums = sums_of_integers(scaled_columns(rows, width)[0], width, LIMIT_BITS)[1]
    return {index: ratios_of(sums[index]) for index in sums}


def summed(rows, wanted):
    """How a row is a sum of the rows, or a row apart that shows that it is none."""
    check_rows(rows)
    check_wanted(rows, wanted)
    check_bounds([rows + (wanted,)])
    return summed_freely(rows, wanted)


def summed_freely(rows, wanted):
    """The same for rows with entries of any length."""
    integers, bottoms = scaled_columns(rows + (wanted,), len(wanted))
    base, places = base_of_integers(integers, len(wanted))
    if len(rows) in base:
        return "apart", row_apart(picked_square(integers, base, places), places, bottoms)
    square = picked_square(integers, base, places)
    weights = solved(square, [[integers[-1][place] for place in places]], LIMIT_BITS)[0]
    found = [(0, 1)] * len(rows)
    for index, pair in zip(base, weights):
        found[index] = pair
    return "sum", ratios_of(found)


def is_sum_of_rows(rows, wanted):
    """Whether a row is a sum of rows, with entries of any length."""
    integers = scaled_columns(rows + (wanted,), len(wanted))[0]
    return len(rows) not in base_of_integers(integers, len(wanted))[0]


def row_apart(square, places, bottoms):
    """The row whose product with the last row of a square is 1, with all others 0, put to its places."""
    side = [int(index == len(square) - 1) for index in range(len(square))]
    # Its members are divided by the bottoms of the columns as yet, so they can be that much longer.
    bits = LIMIT_BITS + longest_of(bottoms)
    weights = solved(columns_of(square, len(square)), [side], bits)[0]
    found = [(0, 1)] * len(bottoms)
    for place, (top, bottom) in zip(places, weights):
        found[place] = (top * bottoms[place], bottom)
    return ratios_of(found)


def is_summed(rows, wanted, value):
    """Whether the value shows how the row is a sum of the rows, or that it is none."""
    check_rows(rows)
    check_wanted(rows, wanted)
    check_bounds([rows + (wanted,)])
    if not isinstance(value, tuple) or len(value) != 2:
        return False
    word, shown = value
    if word == "sum":
        return is_row(shown, len(rows)) and are_weights(rows, wanted, shown)
    return word == "apart" and is_row(shown, len(wanted)) and is_apart(rows, wanted, shown)


def are_weights(rows, wanted, weights):
    """Whether a row is the sum of the rows with these weights."""
    integers = scaled_columns(rows + (wanted,), len(wanted))[0]
    return is_sum(columns_of(integers[:-1], len(wanted)), pairs_of(weights), integers[-1])


def is_apart(rows, wanted, row):
    """Whether the products of a row with the rows are 0, and that with what is wanted is 1."""
    integers, bottom = scaled(row)
    if any([product_of(integers, other) for other in scaled_rows(rows)]):
        return False
    others, below = scaled(wanted)
    return product_of(integers, others) == bottom * below


def turned(rows):
    """The rows whose member j of row i is member i of row j."""
    check_rows(rows)
    check_bounds([rows])
    return tuple([tuple([row[place] for row in rows]) for place in range(width_of(rows))])


def multiplied(rows, others):
    """The rows that are the sums of the others with the members of each row as weights."""
    check_rows(rows)
    check_rows(others)
    check_bounds([rows, others])
    if rows and len(rows[0]) != len(others):
        raise InvalidOperation("a row has another number of weights than there are rows")
    columns = [scaled(column) for column in columns_of(others, width_of(others))]
    return tuple([multiplied_row(scaled(row), columns) for row in rows])


def multiplied_row(row, columns):
    """The products of a row with columns, each integers and the bottom below them."""
    integers, bottom = row
    return tuple([ratio_of(product_of(integers, column), bottom * below) for column, below in columns])
