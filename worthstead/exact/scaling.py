"""Rows of fractions, each a pair of a top and a bottom, as rows of integers."""

from math import lcm

from worthstead.exact.ratios import ratio_of
from worthstead.exact.solving import common_bottom, tops_over


def pairs_of(row):
    """The tops and bottoms of the ratios of a row."""
    return [(one.top, one.bottom) for one in row]


def scaled(row):
    """The integers that a row of ratios is over a common bottom, and this bottom."""
    pairs = pairs_of(row)
    bottom = common_bottom(pairs)
    return tops_over(pairs, bottom), bottom


def scaled_rows(rows):
    """The rows of integers that rows of ratios are, each over a bottom of its own."""
    return [scaled(row)[0] for row in rows]


def row_tops(row):
    """The integers that a row of pairs is over its common bottom."""
    return tops_over(row, common_bottom(row))


def scaled_alike(rows):
    """The rows of integers that rows of pairs are over one bottom for all, and this bottom."""
    shared = 1
    for row in rows:
        shared = lcm(shared, common_bottom(row))
    return [tops_over(row, shared) for row in rows], shared


def scaled_columns(rows, width):
    """The rows of integers that rows of ratios are with one bottom for each column, and these bottoms."""
    bottoms = [common_bottom([(row[place].top, row[place].bottom) for row in rows]) for place in range(width)]
    return [[one.top * (below // one.bottom) for one, below in zip(row, bottoms)] for row in rows], bottoms


def ratios_of(pairs):
    """The row of ratios of pairs, as far as they may be kept."""
    return tuple([ratio_of(top, bottom) for top, bottom in pairs])


def ratio_rows(rows):
    """The rows of ratios of rows of pairs."""
    return tuple([ratios_of(row) for row in rows])


def led_row(row):
    """The row of ratios that is a multiple of a row of integers, and whose first member other than 0 is 1."""
    lead = [entry for entry in row if entry][0]
    return ratios_of([(entry, lead) for entry in row])
