"""Tables made of the rows of two tables, or of the cells of one."""

from worthstead.errors import InvalidOperation, InvalidTable, TooMany, UnknownName
from worthstead.exact.ratios import Ratio, is_ratio, mean, size_keys, total
from worthstead.names import are_names, is_name
from worthstead.tables.columns import MAX_ROWS, NUMBER, Factor, Numbers, is_alike_kind, like_column, values_of
from worthstead.tables.tables import (
    MAX_COLUMNS,
    Table,
    all_cells,
    cell_total,
    cells_of_rows,
    check_factors,
    check_names,
    check_table,
)

WAYS = ("all", "left", "pairs", "right")
WORDS = ("count", "greatest", "least", "mean", "sum")


def joined(one, other, keys, *, way="pairs"):
    """The table of the rows of both tables that meet in some columns, and perhaps of those that meet none."""
    check_table(one)
    check_table(other)
    check_keys(one, other, keys)
    if not is_one_of(way, WAYS):
        raise InvalidOperation("this is no way to join")
    if not all([is_alike_kind(one[name], other[name]) for name in keys]):
        raise InvalidTable("the columns of a key are unlike")
    if any([name in other and name not in keys for name in one.names]):
        raise InvalidTable("both tables have a column that is no key")
    if len(one.names) + len(other.names) - len(keys) > MAX_COLUMNS:
        raise TooMany(MAX_COLUMNS)
    pairs = row_pairs(one, other, keys, way)
    if len(pairs) > MAX_ROWS:
        raise TooMany(MAX_ROWS)
    columns = {name: joined_column(one, other, name, pairs) for name in one.names + other.names}
    return Table(columns, total=len(pairs))


def is_one_of(value, words):
    """Whether the value is one of some words."""
    return isinstance(value, str) and value in words


def check_keys(one, other, keys):
    """Raise an error unless the value is a tuple of names of columns of both tables, at least one."""
    if not are_names(keys) or not keys:
        raise InvalidOperation("the keys are no tuple of different names")
    for name in keys:
        if name not in one or name not in other:
            raise UnknownName(name)


def meeting_keys(table, keys):
    """For each row what it meets other rows by, or None if it lacks a value."""
    columns = [values_of(table[name]) for name in keys]
    rows = [[values[index] for values in columns] for index in range(table.total)]
    return [None if any([value is None for value in row]) else tuple([key_of(value) for value in row]) for row in rows]


def key_of(value):
    """What stands for a value in a key: ratios cannot be members of one."""
    return (value.top, value.bottom) if is_ratio(value) else value


def row_pairs(one, other, keys, way):
    """The pairs of indices of rows for the rows of the joined table, with None for a partner that lacks."""
    lefts = meeting_keys(one, keys)
    rights = meeting_keys(other, keys)
    pairs = [
        (left, right)
        for left, key in enumerate(lefts)
        for right, other_key in enumerate(rights)
        if key is not None and key == other_key
    ]
    met = {left: True for left, _ in pairs}
    met_others = {right: True for _, right in pairs}
    if way in ("left", "all"):
        pairs = pairs + [(left, None) for left in range(len(lefts)) if left not in met]
    if way in ("right", "all"):
        pairs = pairs + [(None, right) for right in range(len(rights)) if right not in met_others]
    return pairs


def joined_column(one, other, name, pairs):
    """The column of the joined table with this name."""
    column = one[name] if name in one else other[name]
    lefts = values_of(one[name]) if name in one else None
    rights = values_of(other[name]) if name in other else None
    return like_column(column, [joined_value(lefts, rights, pair) for pair in pairs])


def joined_value(lefts, rights, pair):
    """The value of a pair of rows in a column; either table may lack the column, or its row."""
    left, right = pair
    if lefts is not None and left is not None:
        return lefts[left]
    if rights is not None and right is not None:
        return rights[right]
    return None


def grouped(table, keys, what):
    """The table with one row for each cell of some factors, and what is told of the rows in it."""
    check_table(table)
    check_names(table, keys)
    check_factors(table, keys)
    if not is_what(what, keys):
        raise InvalidOperation("what is told is no dict from names to words and columns")
    names = sorted(list(what))
    check_columns(table, [what[name] for name in names])
    if len(keys) + len(names) > MAX_COLUMNS:
        raise TooMany(MAX_COLUMNS)
    if cell_total(table, keys) > MAX_ROWS:
        raise TooMany(MAX_ROWS)
    cells = all_cells(table, keys)
    columns = {}
    for at, name in enumerate(keys):
        columns[name] = Factor(table[name].levels, tuple([cell[at] for cell in cells]))
    rows = rows_by_cell(table, keys, cells)
    for name in names:
        columns[name] = Numbers(tuple([told_of(table, what[name], rows[cell]) for cell in cells]))
    return Table(columns, total=len(cells))


def is_what(value, keys):
    """Whether the value is a dict from names that are no keys to pairs of a word and a column."""
    if not isinstance(value, dict):
        return False
    return all([is_name(name) and name not in keys and is_telling(value[name]) for name in value])


def is_telling(value):
    """Whether the value is a pair of a word and a name, or None with the word that counts."""
    if not isinstance(value, tuple) or len(value) != 2 or not is_one_of(value[0], WORDS):
        return False
    return is_name(value[1]) or (value[1] is None and value[0] == "count")


def check_columns(table, tellings):
    """Raise an error unless the columns are there, and those that are not just counted are numbers."""
    for _, column in tellings:
        if column is not None and column not in table:
            raise UnknownName(column)
    for word, column in tellings:
        if word != "count" and table[column].kind != NUMBER:
            raise InvalidOperation("a column is no number column")


def rows_by_cell(table, keys, cells):
    """The dict from the cells to the indices of the rows in them."""
    rows = {cell: [] for cell in cells}
    for index, cell in enumerate(cells_of_rows(table, keys)):
        if cell is not None:
            rows[cell].append(index)
    return rows


def told_of(table, telling, rows):
    """What a word tells of some rows of a column."""
    word, column = telling
    if column is None:
        return Ratio(len(rows))
    values = values_of(table[column])
    present = [values[index] for index in rows if values[index] is not None]
    return Ratio(len(present)) if word == "count" else told_of_ratios(word, tuple(present))


def told_of_ratios(word, ratios):
    """What a word other than the one that counts tells of ratios."""
    if word == "sum":
        return total(ratios)
    if not ratios:
        return None
    if word == "mean":
        return mean(ratios)
    keys = size_keys(ratios)
    return ratios[keys.index(min(keys) if word == "least" else max(keys))]
