"""How many choices of rows for some labels have each sum.

The rows are walked block by block. What is met on the way is told by the parts that are left for the blocks of each
group, by how many rows of the present block are still to have each label, and by the sums of the labels up to there.
"""

from worthstead.errors import TooMany
from worthstead.trials.patterns import tally


def choices_by_sums(several, groups, parts, values, most):
    """The dict from the sums of some labels to how many choices of rows have them.

    The blocks have these rows, and the rows these integers as values; the parts of the patterns that the labels have
    are exchanged within the groups. At most so many pairs of numbers and sums may be met behind each row.
    """
    states = {(tuple([tuple([parts[index] for index in group]) for group in groups]), (0,) * len(parts[0])): 1}
    homes = {index: at for at, group in enumerate(groups) for index in group}
    for index, rows in enumerate(several):
        inner = begun(states, homes[index])
        for at, row in enumerate(rows):
            inner = walked(inner, values[row], len(rows) - at)
            check_pairs(inner, most)
        states = {}
        for (waiting, _, sums), ways in inner.items():
            states[(waiting, sums)] = states.get((waiting, sums), 0) + ways
    return {sums: ways for (_, sums), ways in states.items()}


def begun(states, home):
    """The states behind the choice of a part for the next block, which is in this group."""
    inner = {}
    for (waiting, sums), ways in states.items():
        for part in list(tally(waiting[home])):
            at = waiting[home].index(part)
            others = waiting[home][:at] + waiting[home][at + 1:]
            # Parts that wait in another order are the same parts.
            key = (waiting[:home] + (tuple(sorted(others)),) + waiting[home + 1:], part, sums)
            inner[key] = inner.get(key, 0) + ways
    return inner


def walked(inner, value, rows_left):
    """The states behind one more row of a block, of which so many are left with this one."""
    found = {}
    for (waiting, part, sums), ways in inner.items():
        if rows_left > sum(part):
            found[(waiting, part, sums)] = found.get((waiting, part, sums), 0) + ways
        for at, many in enumerate(part):
            if many:
                less = part[:at] + (many - 1,) + part[at + 1:]
                key = (waiting, less, sums[:at] + (sums[at] + value,) + sums[at + 1:])
                found[key] = found.get(key, 0) + ways
    return found


def check_pairs(inner, most):
    """Raise an error for more different pairs of numbers and sums than told."""
    if len(inner) <= most:
        return
    to_come = {}
    pairs = {}
    for waiting, part, sums in inner:
        if waiting not in to_come:
            to_come[waiting] = [part_totals(group, len(part)) for group in waiting]
        numbers = list(part)
        for totals in to_come[waiting]:
            numbers = [one + other for one, other in zip(numbers, totals)]
        # How many rows are still to have the labels tells how many have them.
        pairs[(tuple(numbers), sums)] = True
    if len(pairs) > most:
        raise TooMany(most)


def part_totals(parts, many):
    """How many rows some parts give each of so many labels."""
    return [sum([part[at] for part in parts]) for at in range(many)]
