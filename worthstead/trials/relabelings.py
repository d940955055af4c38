"""All relabelings of a labelling of rows in blocks, and how many of them have each sum."""

from worthstead.errors import InvalidLabels, InvalidOperation, InvalidRatio, Refused, UnknownName
from worthstead.exact.ratios import are_ratios, is_between, ratio_of
from worthstead.exact.scaling import scaled
from worthstead.names import is_name
from worthstead.trials.counting import choices_by_sums
from worthstead.trials.moments import moments_of
from worthstead.trials.patterns import block_rows, groups_of, pattern_of, total_of, ways_beside

MAX_TRIAL_ROWS = 40
MAX_LABELS = 4
MAX_BLOCKS = 8
MAX_SUMS = 5000
WAYS = ("high", "low", "far")


class Relabelings:
    """The relabelings of a labelling; it never changes."""

    def __init__(self, labels, blocks, *, among=False):
        if not are_labels(labels):
            raise InvalidLabels("this is no tuple of not too many labels")
        if not are_blocks(blocks, len(labels)):
            raise InvalidLabels("this is no tuple of a number of a block for each row")
        if not isinstance(among, bool):
            raise InvalidOperation("it is told neither that relabelings go among blocks nor that blocks are kept")
        self._labels = labels
        self._blocks = blocks
        self._among = among
        self._kinds = tuple(sorted(set(labels)))
        self._several = block_rows(blocks)
        self._groups = groups_of(self._several, among)
        self._patterns = [pattern_of(labels, rows, self._kinds) for rows in self._several]

    @property
    def labels(self):
        """The labels of the rows in the told labelling."""
        return self._labels

    @property
    def blocks(self):
        """The numbers of the blocks of the rows."""
        return self._blocks

    @property
    def is_among(self):
        """Whether relabelings go among blocks."""
        return self._among

    @property
    def total(self):
        """How many relabelings there are."""
        return total_of(self._groups, self._patterns)

    def __len__(self):
        return len(self._labels)

    def __eq__(self, other):
        return (
            isinstance(other, Relabelings) and self._labels == other._labels and self._blocks == other._blocks
            and self._among == other._among
        )

    def __str__(self):
        return f"{self.total} relabelings of {len(self._labels)} rows in {len(self._several)} blocks"

    def is_relabeling(self, value):
        """Whether the value is one of the relabelings."""
        if not isinstance(value, tuple) or len(value) != len(self._labels):
            return False
        # A label that is none of these is in no pattern, and lacks in one.
        patterns = [pattern_of(value, rows, self._kinds) for rows in self._several]
        return all([
            sorted([patterns[index] for index in group]) == sorted([self._patterns[index] for index in group])
            for group in self._groups
        ])

    def counts(self, values, label):
        """The pairs of a sum of a label and the number of relabelings with this sum, ascending."""
        check_values(values, len(self._labels))
        check_label(label, self._kinds)
        found, bottom = counted(self, values, (label,))
        return tuple([(ratio_of(sums[0], bottom), found[sums]) for sums in sorted(list(found))])

    def told_share(self, values, label, way):
        """The share of the relabelings whose sum is as high, as low, or as far from the mean as the told one."""
        check_values(values, len(self._labels))
        check_label(label, self._kinds)
        if not isinstance(way, str) or way not in WAYS:
            raise InvalidOperation("this is no way to count")
        found = counted(self, values, (label,))[0]
        tops = scaled(values)[0]
        told = sum([top for top, other in zip(tops, self._labels) if other == label])
        middle = moments_by(self, tops, label)[0]
        return ratio_of(sum([found[sums] for sums in found if is_as(way, sums[0], told, middle)]), self.total)

    def floor(self, values, label):
        """The least share that any relabeling has by its sum being high."""
        check_values(values, len(self._labels))
        check_label(label, self._kinds)
        found = counted(self, values, (label,))[0]
        return ratio_of(found[max(list(found))], self.total)

    def moments(self, values, label):
        """The mean and the spread of the sums of a label over all relabelings."""
        check_values(values, len(self._labels))
        check_label(label, self._kinds)
        tops, bottom = scaled(values)
        middle, spread = moments_by(self, tops, label)
        return ratio_of(middle[0], middle[1] * bottom), ratio_of(spread[0], spread[1] * bottom * bottom)

    def pairs(self, values, label, other):
        """The triples of the sums of two labels and the number of relabelings with both, ascending."""
        check_values(values, len(self._labels))
        check_label(label, self._kinds)
        check_label(other, self._kinds)
        if label == other:
            raise InvalidOperation("both labels are the same")
        found, bottom = counted(self, values, (label, other))
        triples = [(one, two, found[(one, two)]) for one, two in sorted(list(found))]
        return tuple([(ratio_of(one, bottom), ratio_of(two, bottom), many) for one, two, many in triples])


def are_labels(value):
    """Whether the value is a tuple of labels for not too many rows."""
    if not isinstance(value, tuple) or not 1 <= len(value) <= MAX_TRIAL_ROWS:
        return False
    return all([is_name(one) for one in value]) and len(set(value)) <= MAX_LABELS


def are_blocks(value, many):
    """Whether the value is a tuple of so many numbers of blocks."""
    if not isinstance(value, tuple) or len(value) != many:
        return False
    return all([is_between(one, 0, MAX_BLOCKS - 1) for one in value])


def check_values(values, many):
    """Raise an error unless the value is a tuple of so many ratios, and another one if just some are lacking."""
    if not isinstance(values, tuple) or len(values) != many:
        raise InvalidRatio("this is no tuple of a ratio for each row")
    if not are_ratios(tuple([one for one in values if one is not None])):
        raise InvalidRatio("one of the values is no ratio")
    for index, one in enumerate(values):
        if one is None:
            raise Refused(("lacking", index))


def check_label(value, labels):
    """Raise an error unless the value is one of the labels."""
    if not isinstance(value, str) or value not in labels:
        raise UnknownName(value)


def counted(relabelings, values, labels):
    """The dict from the sums of some labels, tops over one bottom, to the numbers of relabelings; and the bottom."""
    several = block_rows(relabelings.blocks)
    groups = groups_of(several, relabelings.is_among)
    kinds = sorted(set(relabelings.labels))
    patterns = [pattern_of(relabelings.labels, rows, kinds) for rows in several]
    parts = [pattern_of(relabelings.labels, rows, labels) for rows in several]
    tops, bottom = scaled(values)
    choices = choices_by_sums(several, groups, parts, tops, MAX_SUMS)
    beside = ways_beside(several, groups, patterns, parts)
    return {sums: choices[sums] * beside for sums in choices}, bottom


def moments_by(relabelings, tops, label):
    """The pairs of the mean and of the spread of the sums of a label, for integers as values."""
    several = block_rows(relabelings.blocks)
    numbers = [pattern_of(relabelings.labels, rows, (label,))[0] for rows in several]
    return moments_of(several, groups_of(several, relabelings.is_among), numbers, tops)


def is_as(way, top, told, middle):
    """Whether a sum counts beside the told one, by a way; the mean is a pair."""
    if way == "high":
        return top >= told
    if way == "low":
        return top <= told
    return abs(top * middle[1] - middle[0]) >= abs(told * middle[1] - middle[0])
