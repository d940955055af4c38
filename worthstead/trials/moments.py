"""The mean and the spread of the sums of a label over all relabelings, from the groups of blocks alone.

Fractions are pairs of integers here, so that nothing that is only met on the way can be too long.
"""


def summed_pair(one, other):
    """The sum of two pairs."""
    return one[0] * other[1] + other[0] * one[1], one[1] * other[1]


def square_sum(integers):
    """The sum of the squares of the distances of integers from their mean, as a pair."""
    many = len(integers)
    whole = sum(integers)
    return many * sum([one * one for one in integers]) - whole * whole, many


def moments_of(several, groups, numbers, values):
    """The pairs of the mean and of the spread; the numbers tell how many rows of each block have the label."""
    middle = (0, 1)
    spread = (0, 1)
    for group in groups:
        many = [numbers[index] for index in group]
        blocks = [[values[row] for row in several[index]] for index in group]
        middle = summed_pair(middle, group_mean(many, blocks))
        spread = summed_pair(summed_pair(spread, spread_within(many, blocks)), spread_between(many, blocks))
    return middle, spread


def group_mean(many, blocks):
    """What a group of blocks adds to the mean."""
    # The mean of a block is its sum over its number of rows, which all blocks of a group have.
    return sum(many) * sum([sum(block) for block in blocks]), len(blocks) * len(blocks[0])


def spread_within(many, blocks):
    """What a group adds to the spread because rows are exchanged within blocks."""
    rows = len(blocks[0])
    if rows == 1:
        return 0, 1
    found = (0, 1)
    for block in blocks:
        found = summed_pair(found, square_sum(block))
    # The mean square distance of a block is the sum of the squares over its number of rows.
    factor = sum([one * (rows - one) for one in many])
    return factor * found[0], len(blocks) * (rows - 1) * rows * found[1]


def spread_between(many, blocks):
    """What a group adds to the spread because patterns are exchanged between blocks."""
    if len(blocks) == 1:
        return 0, 1
    rows = len(blocks[0])
    one = square_sum(many)
    other = square_sum([sum(block) for block in blocks])
    return one[0] * other[0], one[1] * other[1] * rows * rows * (len(blocks) - 1)
