"""The texts of tables."""

from worthstead.errors import ParseError
from worthstead.exact.ratios import ratio_read, wrong_spot
from worthstead.names import is_name
from worthstead.tables.columns import FACTOR, MAX_ROWS, NUMBER, Factor, Numbers, are_levels
from worthstead.tables.tables import MAX_COLUMNS, Table, check_table

LACKING = "?"
FIRST_WORD = "rows"


def write_table(table):
    """The text of a table."""
    check_table(table)
    lines = [f"{FIRST_WORD} {table.total}\n"]
    for name in table.names:
        words = column_words(name, table[name])
        lines.append(" ".join(words) + "\n")
    return "".join(lines)


def column_words(name, column):
    """The words of the line of a column."""
    if column.kind == FACTOR:
        texts = [LACKING if code is None else column.levels[code] for code in column.codes]
        return [FACTOR, name, ",".join(column.levels)] + texts
    return [NUMBER, name] + [LACKING if one is None else str(one) for one in column.ratios]


def read_table(text):
    """The table with a text."""
    if not isinstance(text, str):
        raise ParseError(None)
    lines = text.split("\n")
    # Behind the last newline nothing stands, so the last of these is no line unless its newline was left out.
    last = lines.pop()
    if not lines:
        raise ParseError(0)
    total = read_total(lines[0])
    if total is None:
        raise ParseError(0)
    columns = {}
    ahead = ""
    for index, line in enumerate(lines):
        if index > 0:
            name, column = read_column(line.split(" "), total)
            if column is None or name <= ahead or len(columns) == MAX_COLUMNS:
                raise ParseError(index)
            columns[name] = column
            ahead = name
    if last:
        raise ParseError(len(lines))
    return Table(columns, total=total)


def read_total(line):
    """The number of rows that the first line tells, or None."""
    # Of the few lines that can stand there, one is this one.
    for total in range(MAX_ROWS + 1):
        if line == f"{FIRST_WORD} {total}":
            return total
    return None


def read_column(words, total):
    """The name and the column that the words of a line tell, None for the column if they tell none."""
    name = words[1] if len(words) > 1 else ""
    if not is_name(name):
        return name, None
    if words[0] == FACTOR and len(words) == total + 3:
        return name, read_factor(words[2].split(","), words[3:])
    if words[0] == NUMBER and len(words) == total + 2:
        return name, read_numbers(words[2:])
    return name, None


def read_factor(levels, texts):
    """The factor with these levels and texts of values, or None."""
    if not are_levels(tuple(levels)) or not all([text == LACKING or text in levels for text in texts]):
        return None
    return Factor.of_names(tuple(levels), tuple([None if text == LACKING else text for text in texts]))


def read_numbers(texts):
    """The number column with these texts of values, or None."""
    if not all([text == LACKING or wrong_spot(text) is None for text in texts]):
        return None
    return Numbers(tuple([None if text == LACKING else ratio_read(text) for text in texts]))
