"""Columns of tables: factors with levels, and columns of numbers."""

from worthstead.errors import InvalidTable
from worthstead.exact.ratios import is_between, is_ratio
from worthstead.names import is_short_word

MAX_ROWS = 200
MAX_LEVELS = 12
FEWEST_LEVELS = 2
FACTOR = "factor"
NUMBER = "number"


class Factor:
    """A factor: its levels, and for each row the index of one of them or None; it never changes."""

    def __init__(self, levels, codes):
        if not are_levels(levels):
            raise InvalidTable("these are no levels of a factor")
        if not are_codes(codes, len(levels)):
            raise InvalidTable("these are no values of a factor")
        self._levels = levels
        self._codes = codes

    @property
    def levels(self):
        """The tuple of the levels."""
        return self._levels

    @property
    def codes(self):
        """The tuple of the indices of the levels of the rows."""
        return self._codes

    @property
    def kind(self):
        """The word for columns with levels."""
        return FACTOR

    @classmethod
    def of_names(cls, levels, texts):
        """The factor with levels as its values."""
        if not are_levels(levels) or not isinstance(texts, tuple):
            raise InvalidTable("these are no levels, or no values, of a factor")
        if not all([text is None or text in levels for text in texts]):
            raise InvalidTable("a value is none of the levels")
        return cls(levels, tuple([None if text is None else levels.index(text) for text in texts]))

    def __len__(self):
        return len(self._codes)

    def __eq__(self, other):
        return isinstance(other, Factor) and self._levels == other._levels and self._codes == other._codes


class Numbers:
    """A column of numbers: for each row a ratio or None; it never changes."""

    def __init__(self, ratios):
        if not isinstance(ratios, tuple) or len(ratios) > MAX_ROWS:
            raise InvalidTable("these are no values of a number column")
        if not all([one is None or is_ratio(one) for one in ratios]):
            raise InvalidTable("a value is no ratio")
        self._ratios = ratios

    @property
    def ratios(self):
        """The tuple of the values of the rows."""
        return self._ratios

    @property
    def kind(self):
        """The word for columns with numbers."""
        return NUMBER

    def __len__(self):
        return len(self._ratios)

    def __eq__(self, other):
        return isinstance(other, Numbers) and self._ratios == other._ratios


def are_levels(value):
    """Whether the value is a tuple of levels for a factor."""
    if not isinstance(value, tuple) or not FEWEST_LEVELS <= len(value) <= MAX_LEVELS:
        return False
    return all([is_short_word(one) for one in value]) and len(set(value)) == len(value)


def are_codes(value, many):
    """Whether the value is a tuple of indices of so many levels, and None."""
    if not isinstance(value, tuple) or len(value) > MAX_ROWS:
        return False
    return all([one is None or is_between(one, 0, many - 1) for one in value])


def is_column(value):
    """Whether the value is a column of a table."""
    return isinstance(value, (Factor, Numbers))


def values_of(column):
    """The tuple of the values of a column, indices of levels or ratios."""
    return column.codes if column.kind == FACTOR else column.ratios


def like_column(column, values):
    """The column of the same kind, and with the same levels, that has these values."""
    return Factor(column.levels, tuple(values)) if column.kind == FACTOR else Numbers(tuple(values))


def is_alike_kind(one, other):
    """Whether two columns are of one kind and, if factors, have equal levels in the same order."""
    return one.kind == other.kind and (one.kind == NUMBER or one.levels == other.levels)
