"""Tables of columns with names."""

from worthstead.errors import InvalidNumber, InvalidOperation, InvalidTable, TooMany, UnknownName
from worthstead.exact.ratios import is_between
from worthstead.names import are_names, is_name
from worthstead.tables.columns import FACTOR, MAX_ROWS, is_alike_kind, is_column, like_column, values_of
from worthstead.tables.ordering import order_of

MAX_COLUMNS = 12
MAX_CELLS = 4096


class Table:
    """Columns with names, and one value of each for each row; it never changes."""

    def __init__(self, columns, *, total=None):
        if not are_columns(columns):
            raise InvalidTable("this is no dict from names to columns")
        if total is not None and not is_between(total, 0, MAX_ROWS):
            raise InvalidNumber(total)
        if len(columns) > MAX_COLUMNS:
            raise TooMany(MAX_COLUMNS)
        lengths = [len(column) for column in list(columns.values())]
        if total is not None:
            lengths.append(total)
        if len(set(lengths)) > 1:
            raise InvalidTable("a column has another length")
        self._total = lengths[0] if lengths else 0
        self._columns = {name: columns[name] for name in sorted(list(columns))}

    @property
    def columns(self):
        """The dict from the names to the columns."""
        return {name: self._columns[name] for name in self._columns}

    @property
    def names(self):
        """The ascending tuple of the names."""
        return tuple(list(self._columns))

    @property
    def total(self):
        """The number of rows."""
        return self._total

    @property
    def kinds(self):
        """The dict from the names to the kinds of the columns."""
        return {name: self._columns[name].kind for name in self._columns}

    def __getitem__(self, at):
        if at not in self:
            raise UnknownName(at)
        return self._columns[at]

    def __contains__(self, x):
        return isinstance(x, str) and x in self._columns

    def __iter__(self):
        raise TypeError("a table cannot be iterated over")

    def __len__(self):
        return len(range(self._total))

    def __eq__(self, other):
        return isinstance(other, Table) and self._total == other._total and self._columns == other._columns

    def __str__(self):
        return f"table of {self._total} rows{kinds_text(self._columns)}"

    def worths(self, index):
        """The dict from the names to the values of a row."""
        if not is_between(index, 0, self._total - 1):
            raise InvalidNumber(index)
        return {name: values_of(self._columns[name])[index] for name in self._columns}

    def picked(self, indices):
        """The rows with these indices, in this order."""
        if not isinstance(indices, tuple):
            raise InvalidOperation("the indices are no tuple")
        for index in indices:
            if not is_between(index, 0, self._total - 1):
                raise InvalidNumber(index)
        if len(indices) > MAX_ROWS:
            raise TooMany(MAX_ROWS)
        return with_rows(self, indices)

    def shown(self, names):
        """The table with some columns alone."""
        check_names(self, names)
        return Table({name: self._columns[name] for name in names}, total=self._total)

    def with_column(self, name, column):
        """The table with one more column, or with another one under this name."""
        if not is_name(name):
            raise InvalidOperation("the column has no name")
        if not is_column(column) or len(column) != self._total:
            raise InvalidTable("this is no column for so many rows")
        columns = self.columns
        columns[name] = column
        return Table(columns, total=self._total)

    def bound(self, other):
        """The rows of the table, and behind them those of another one."""
        check_table(other)
        if self.names != other.names:
            raise InvalidTable("the tables have unlike names")
        if not all([is_alike_kind(self._columns[name], other[name]) for name in self._columns]):
            raise InvalidTable("the tables have unlike columns")
        if self._total + other.total > MAX_ROWS:
            raise TooMany(MAX_ROWS)
        columns = {name: bound_column(self._columns[name], other[name]) for name in self._columns}
        return Table(columns, total=self._total + other.total)

    def ordered(self, names, *, down=()):
        """The rows in the order of some columns, the first one deciding first."""
        check_names(self, names)
        if not are_names(down) or not all([name in names for name in down]):
            raise InvalidOperation("what goes downward is not among the names")
        columns = [values_of(self._columns[name]) for name in names]
        return with_rows(self, order_of(self._total, columns, [name in down for name in names]))

    def cells(self, names, *, full=False):
        """The dict from the cells of some factors to the numbers of the rows in them."""
        check_names(self, names)
        check_factors(self, names)
        if not isinstance(full, bool):
            raise InvalidOperation("it is told neither that all cells are wanted nor that they are not")
        if full and cell_total(self, names) > MAX_CELLS:
            raise TooMany(MAX_CELLS)
        counts = {cell: 0 for cell in all_cells(self, names)} if full else {}
        for cell in cells_of_rows(self, names):
            if cell is not None:
                counts[cell] = counts.get(cell, 0) + 1
        return {cell: counts[cell] for cell in sorted(list(counts))}

    def complete(self, names):
        """The ascending tuple of the indices of the rows that lack no value in some columns."""
        check_names(self, names)
        columns = [values_of(self._columns[name]) for name in names]
        return tuple([
            index for index in range(self._total) if all([values[index] is not None for values in columns])
        ])


def check_table(value):
    """Raise an error unless the value is a table."""
    if not isinstance(value, Table):
        raise InvalidTable("this is no table")


def are_columns(value):
    """Whether the value is a dict from names to columns."""
    return isinstance(value, dict) and all([is_name(name) and is_column(value[name]) for name in value])


def check_names(table, names):
    """Raise an error unless the value is a tuple of different names of columns."""
    if not are_names(names):
        raise InvalidOperation("this is no tuple of different names")
    for name in names:
        if name not in table:
            raise UnknownName(name)


def check_factors(table, names):
    """Raise an error unless all of these columns are factors."""
    if not all([table[name].kind == FACTOR for name in names]):
        raise InvalidOperation("a column is no factor")


def kinds_text(columns):
    """What the text of a table tells of its columns."""
    words = [f"{name} {columns[name].kind}" for name in columns]
    text = ", ".join(words)
    return f": {text}" if words else ""


def with_rows(table, indices):
    """The table with the rows of these indices; they exist, and are not too many."""
    columns = {}
    for name in table.names:
        values = values_of(table[name])
        columns[name] = like_column(table[name], [values[index] for index in indices])
    return Table(columns, total=len(indices))


def bound_column(one, other):
    """The values of one column, and behind them those of another one like it."""
    return like_column(one, values_of(one) + values_of(other))


def cell_total(table, names):
    """How many cells some factors have."""
    many = 1
    for name in names:
        many = many * len(table[name].levels)
    return many


def all_cells(table, names):
    """All cells of some factors, ascending."""
    cells = [()]
    for name in names:
        cells = [cell + (level,) for cell in cells for level in range(len(table[name].levels))]
    return cells


def cells_of_rows(table, names):
    """For each row its cell of some factors, or None."""
    columns = [table[name].codes for name in names]
    cells = [tuple([codes[index] for codes in columns]) for index in range(table.total)]
    return [None if any([level is None for level in cell]) else cell for cell in cells]
