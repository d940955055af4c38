"""Which part of the rows of a space comes back to it from a stratum.

The space is told by rows of integers that span it, none of them a sum of others; with them come their parts in the
stratum, all over one bottom. What comes back of a row is a multiple of it exactly if the products of its part with
all rows are this multiple of its own products with them.
"""

from worthstead.exact.solving import product_of


def odd_row(rows, parts):
    """A row of the space such that what comes back of it is no multiple of it; None if the space has a share."""
    for row, part in zip(rows, parts):
        if not is_back_multiple(rows, row, part):
            return row
    first = product_of(rows[0], parts[0])
    square = product_of(rows[0], rows[0])
    for row, part in zip(rows, parts):
        # Of two rows with unlike multiples, what comes back of the sum is no multiple of it.
        if product_of(row, part) * square != first * product_of(row, row):
            return [one + other for one, other in zip(rows[0], row)]
    return None


def is_back_multiple(rows, row, part):
    """Whether what comes back of a row is a multiple of it; its part is passed over any bottom."""
    back = product_of(row, part)
    square = product_of(row, row)
    return all([product_of(other, part) * square == back * product_of(other, row) for other in rows])


def share_pair(rows, parts, bottom):
    """The share of a space that has one, as a pair of a top and a bottom."""
    return product_of(rows[0], parts[0]), bottom * product_of(rows[0], rows[0])


def first_joined(rows, others, parts):
    """The first of the rows, and of the others, such that the part of the other has a product with it; or None."""
    for row in rows:
        for other, part in zip(others, parts):
            if product_of(row, part):
                return row, other
    return None
