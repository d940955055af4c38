"""The share of a factor in blocks, from counts alone."""

from worthstead.errors import InvalidTable, Refused
from worthstead.exact.ratios import Ratio
from worthstead.tables.columns import Factor


def equal_share(blocks, levels):
    """The share of the levels of a factor within blocks of rows."""
    check_full(blocks)
    check_full(levels)
    if len(levels) != len(blocks):
        raise InvalidTable("there are not as many levels as rows in blocks")
    counts = counts_in(blocks, levels)
    sizes = [sum([row[block] for row in counts]) for block in range(len(blocks.levels))]
    occurring = [size for size in sizes if size]
    stands = [sum(row) for row in counts]
    squares = [sum([many * many for many in row]) for row in counts]
    pairs = [
        sum([many * other for many, other in zip(row, counts[further])])
        for at, row in enumerate(counts)
        for further in range(at + 1, len(counts))
    ]
    for word, numbers in (("blocks", occurring), ("levels", stands), ("squares", squares), ("pairs", pairs)):
        if len(set(numbers)) > 1:
            raise Refused((word,))
    return Ratio(squares[0] - pairs[0], stands[0] * occurring[0])


def check_full(value):
    """Raise an error unless the value is a factor of one or more rows that lacks no value."""
    if not isinstance(value, Factor) or len(value) == 0 or None in value.codes:
        raise InvalidTable("this is no factor with a level for each of some rows")


def counts_in(blocks, levels):
    """For each level the numbers of its rows in all blocks."""
    counts = [[0] * len(blocks.levels) for _ in levels.levels]
    for block, level in zip(blocks.codes, levels.codes):
        counts[level][block] = counts[level][block] + 1
    return counts
