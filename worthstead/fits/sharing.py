"""Which part of the rows of a space comes back to it from a stratum."""

from worthstead.exact.ratios import ratio_of
from worthstead.exact.scaling import led_row
from worthstead.exact.solving import product_of


def share_in(rows, parts, bottom):
    """The pair for a stratum, from rows that span an own part, and their parts in the stratum over a bottom.

    What comes back of a row is a multiple of it exactly if the products of its part with all rows are this multiple
    of its own products with them.
    """
    odd = None
    for row, part in zip(rows, parts):
        if odd is None and not is_back_multiple(rows, row, part):
            odd = row
    if odd is not None:
        return "none", led_row(odd)
    first = product_of(rows[0], parts[0])
    square = product_of(rows[0], rows[0])
    for row, part in zip(rows, parts):
        # Of two rows with unlike multiples, what comes back of the sum is no multiple of it.
        if product_of(row, part) * square != first * product_of(row, row):
            return "none", led_row([one + other for one, other in zip(rows[0], row)])
    return "share", ratio_of(first, bottom * square)


def is_back_multiple(rows, row, part):
    """Whether what comes back of a row is a multiple of it; its part is passed over any bottom."""
    back = product_of(row, part)
    square = product_of(row, row)
    return all([product_of(other, part) * square == back * product_of(other, row) for other in rows])


def first_joined(rows, others, parts):
    """The first of the rows, and of the others, such that the part of the other has a product with it; or None."""
    for row in rows:
        for other, part in zip(others, parts):
            if product_of(row, part):
                return row, other
    return None
