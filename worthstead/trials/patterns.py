"""Patterns: how many rows of a block have each label, and how many labellings have the same patterns.

A block is told by the list of the indices of its rows. Blocks go in groups: each pattern of a group can be given to
each block of it, so that all blocks of a group have one number of rows.
"""

from math import factorial


def block_rows(blocks):
    """The lists of the rows of the blocks, by the numbers of the blocks."""
    rows = {}
    for index, block in enumerate(blocks):
        rows[block] = rows.get(block, []) + [index]
    return [rows[block] for block in sorted(list(rows))]


def groups_of(several, is_among):
    """The lists of the indices of the blocks that can have the patterns of one another."""
    groups = {}
    for index, rows in enumerate(several):
        # Kept blocks have nothing in common with any other one.
        key = len(rows) if is_among else -index
        groups[key] = groups.get(key, []) + [index]
    return list(groups.values())


def pattern_of(labels, rows, wanted):
    """How many of some rows have each of the wanted labels."""
    found = [labels[index] for index in rows]
    return tuple([found.count(label) for label in wanted])


def orders_of(numbers):
    """In how many orders so many things of each kind can stand."""
    found = factorial(sum(numbers))
    for number in numbers:
        found = found // factorial(number)
    return found


def tally(things):
    """The dict from the different ones of some things to how often they stand."""
    found = {}
    for thing in things:
        found[thing] = found.get(thing, 0) + 1
    return found


def pattern_orders(patterns):
    """In how many different orders some patterns can stand."""
    return orders_of(list(tally(patterns).values()))


def ways_beside(several, groups, patterns, parts):
    """By how much the labellings are more than the ways to choose the rows of some labels.

    The patterns are those of all labels, and the parts those of the chosen ones alone, each for all blocks. The ways
    to choose are counted by different orders of the parts, and with each by the choices of rows within the blocks.
    """
    found = 1
    for rows, pattern, part in zip(several, patterns, parts):
        chosen = orders_of(part + (len(rows) - sum(part),))
        found = found * (orders_of(pattern) // chosen)
    for group in groups:
        whole = pattern_orders([patterns[index] for index in group])
        found = found * (whole // pattern_orders([parts[index] for index in group]))
    return found


def total_of(groups, patterns):
    """How many labellings have these patterns, exchanged within the groups."""
    found = 1
    for pattern in patterns:
        found = found * orders_of(pattern)
    for group in groups:
        found = found * pattern_orders([patterns[index] for index in group])
    return found
