"""The parts of rows of integers in strata.

The rows of a stratum are told by two lists of labels, one label for each kept row: rows with equal finer labels have
equal members, and the members of rows with equal coarser labels add up to 0. In the stratum 0 nothing is coarser.
"""

from math import lcm

from worthstead.exact.spaces import space_of


def labels_of(model, blocks):
    """For each number of blocks, and at last for the rows themselves, the labels of the kept rows."""
    codes = [model.table[name].codes for name in blocks]
    labels = []
    for many in range(len(blocks) + 1):
        labels.append([tuple([column[index] for column in codes[:many]]) for index in model.kept])
    return labels + [list(model.kept)]


def stratum_of(labels, index):
    """The finer and the coarser labels of a stratum, None for the coarser ones of the first."""
    return labels[index], labels[index - 1] if index > 0 else None


def sizes_of(labels):
    """The dict from the labels to how often they stand."""
    sizes = {}
    for label in labels:
        sizes[label] = sizes.get(label, 0) + 1
    return sizes


def bottom_for(stratum):
    """A bottom that the parts of all rows of integers can stand over."""
    shared = 1
    for labels in stratum:
        for size in list(sizes_of(labels if labels is not None else []).values()):
            shared = lcm(shared, size)
    return shared


def mean_tops(labels, row, bottom):
    """The means of a row over equal labels, each where its label stands, as tops over a bottom."""
    sums = {}
    for label, entry in zip(labels, row):
        sums[label] = sums.get(label, 0) + entry
    sizes = sizes_of(labels)
    return [sums[label] * (bottom // sizes[label]) for label in labels]


def part_tops(stratum, row, bottom):
    """The part of a row in a stratum, as tops over the bottom for the stratum."""
    finer, coarser = stratum
    tops = mean_tops(finer, row, bottom)
    if coarser is None:
        return tops
    return [one - other for one, other in zip(tops, mean_tops(coarser, row, bottom))]


def is_in_stratum(stratum, row):
    """Whether a row is in a stratum."""
    bottom = bottom_for(stratum)
    return part_tops(stratum, row, bottom) == [bottom * entry for entry in row]


def stratum_space(stratum):
    """The space of all rows of a stratum."""
    finer, coarser = stratum
    width = len(finer)
    if coarser is None:
        return space_of(width, [[(1, 1)] * width] if width else [])
    sizes = sizes_of(finer)
    around = {label: other for label, other in zip(finer, coarser)}
    # Labels come as they first stand, so the last one of those within a coarser one begins last.
    last = {around[label]: label for label in sizes}
    rows = []
    for label in sizes:
        end = last[around[label]]
        if label != end:
            rows.append([contrast_entry(other, label, end, sizes) for other in finer])
    return space_of(width, rows)


def contrast_entry(other, label, end, sizes):
    """A member of the row that has 1 at a label, and at another one what makes the sum 0."""
    if other == label:
        return 1, 1
    return (-sizes[label], sizes[end]) if other == end else (0, 1)
