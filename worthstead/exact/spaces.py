"""Spaces of rows of ratios."""

from worthstead.errors import InvalidNumber, InvalidRows, InvalidSpace
from worthstead.exact.ratios import is_between
from worthstead.exact.reducing import are_within, part_within, reduced_rows, reduced_square, square_within
from worthstead.exact.rows import check_bounds, check_rows, is_row
from worthstead.exact.scaling import pairs_of, ratio_rows, ratios_of, row_tops, scaled, scaled_rows
from worthstead.exact.solving import LIMIT_BITS, product_of

MAX_WIDTH = 64


class Space:
    """The set of all sums of some rows of one width; it never changes."""

    def __init__(self, width, rows):
        check_width(width)
        check_rows(rows)
        if rows and len(rows[0]) != width:
            raise InvalidRows("the rows have another width than the space")
        check_bounds([rows])
        self._width = width
        self._rows = ratio_rows(reduced_rows(scaled_rows(rows), width, LIMIT_BITS))

    @property
    def width(self):
        """How many members each row has."""
        return self._width

    @property
    def rows(self):
        """The reduced rows."""
        return self._rows

    @classmethod
    def whole(cls, width):
        """The space of all rows of a width."""
        check_width(width)
        places = range(width)
        return space_of(width, [[(int(place == index), 1) for place in places] for index in places])

    @classmethod
    def ones(cls, width):
        """The space of the multiples of the row with ones alone."""
        check_width(width)
        return space_of(width, [[(1, 1)] * width] if width else [])

    def __len__(self):
        return len(self._rows)

    def __iter__(self):
        return iter(self._rows)

    def __contains__(self, x):
        return is_row(x, self._width) and are_within(pair_rows(self), self._width, [scaled(x)[0]])

    def __eq__(self, other):
        return isinstance(other, Space) and self._width == other._width and self._rows == other._rows

    def __add__(self, other):
        if not isinstance(other, Space):
            return NotImplemented
        check_same_width(self, other)
        return space_of(self._width, joined_rows(self, other, LIMIT_BITS))

    def __and__(self, other):
        if not isinstance(other, Space):
            return NotImplemented
        check_same_width(self, other)
        # What is in a space is just what is square to all that is square to it.
        square = [row_tops(row) for row in reduced_square(scaled_rows(other._rows), self._width, None)]
        return space_of(self._width, square_within(pair_rows(self), self._width, square, LIMIT_BITS))

    def part(self, row):
        """The part of a row in the space."""
        check_row(row, self._width)
        return ratios_of(part_of(self, row))

    def rest(self, row):
        """The row less its part in the space."""
        check_row(row, self._width)
        return ratios_of([lessened_pair(one, pair) for one, pair in zip(row, part_of(self, row))])

    def behind(self, other):
        """What the space adds behind another one."""
        check_space(self, other)
        joined = joined_rows(self, other, None)
        return space_of(self._width, square_within(joined, self._width, scaled_rows(other._rows), LIMIT_BITS))

    def is_within(self, other):
        """Whether each row of the space is in the other one."""
        check_space(self, other)
        return are_within(pair_rows(other), self._width, scaled_rows(self._rows))

    def is_square_to(self, other):
        """Whether each row of the one is square to each row of the other."""
        check_space(self, other)
        rows = scaled_rows(other._rows)
        return not any([product_of(one, two) for one in scaled_rows(self._rows) for two in rows])


def check_width(value):
    """Raise an error unless the value is the width of a space."""
    if not is_between(value, 0, MAX_WIDTH):
        raise InvalidNumber(value)


def check_row(value, width):
    """Raise an error unless the value is a row of this width."""
    if not is_row(value, width):
        raise InvalidRows("this is no row of the width of the space")


def check_space(space, value):
    """Raise an error unless the value is a space of the same width."""
    if not isinstance(value, Space):
        raise InvalidSpace("this is no space")
    check_same_width(space, value)


def check_same_width(one, other):
    """Raise an error unless both spaces have one width."""
    if one.width != other.width:
        raise InvalidSpace("the spaces have unlike widths")


def space_of(width, rows):
    """The space with these reduced rows of pairs, as far as they may be kept."""
    made = Space(width, ())
    made._rows = ratio_rows(rows)
    return made


def pair_rows(space):
    """The reduced rows, as pairs."""
    return [pairs_of(row) for row in space.rows]


def joined_rows(one, other, bits):
    """The reduced rows of pairs of the joined space."""
    return reduced_rows(scaled_rows(one.rows + other.rows), one.width, bits)


def part_of(space, row):
    """The part of a row in a space, as pairs."""
    integers, bottom = scaled(row)
    # The part can be longer than both the row and the rest, but not by more than they are together.
    bits = 3 * LIMIT_BITS + bottom.bit_length()
    pairs = part_within(pair_rows(space), space.width, integers, bits)
    return [(top, below * bottom) for top, below in pairs]


def lessened_pair(one, pair):
    """A ratio less a pair, as a pair."""
    top, bottom = pair
    return one.top * bottom - top * one.bottom, one.bottom * bottom
