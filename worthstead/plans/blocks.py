"""Plans that are folded, laid side by side, or parted into blocks, and those of squares of signs."""

from worthstead.errors import InvalidPlan, InvalidWords, Refused, TooMany
from worthstead.names import LETTERS, are_names
from worthstead.plans.fields import (
    MOST_FACTORS,
    added,
    inverse_of,
    is_normal,
    power_of,
    reduced_words,
    remainder,
    sums_of_words,
)
from worthstead.plans.plans import MOST_RUNS, Plan, check_class, check_classes, check_plan, level_names
from worthstead.plans.words import are_words, check_prime, check_word, side_of
from worthstead.tables.columns import Factor
from worthstead.tables.tables import MAX_COLUMNS


def folded(plan, shifts):
    """The plan whose runs are all sums of a run of a plan and a multiple of a word."""
    check_plan(plan)
    check_word(plan.p, len(plan.names), shifts)
    rows = [word + (side,) for word, side in plan.rows]
    moves = [side_of(plan.p, word, shifts) for word, _ in plan.rows]
    moving = [index for index, move in enumerate(moves) if move]
    if not moving:
        return plan
    # Whatever the shifts move can be made still with the first row that they move, which itself is lost.
    first = moving[0]
    back = inverse_of(plan.p, moves[first])
    still = []
    for index, row in enumerate(rows):
        if index != first:
            still.append(added(plan.p, row, rows[first], -moves[index] * back))
    return Plan(plan.p, plan.names, tuple([(row[:-1], row[-1]) for row in still]))


def side_by_side(one, other):
    """The plan whose runs are all runs of one plan, each with all runs of another one behind it."""
    check_plan(one)
    check_plan(other)
    names = one.names + other.names
    if one.p != other.p or not are_names(names):
        raise InvalidPlan("the plans have unlike numbers of levels, or a name that is in both")
    if len(names) > MOST_FACTORS:
        raise TooMany(MOST_FACTORS)
    if len(one) * len(other) > MOST_RUNS:
        raise TooMany(MOST_RUNS)
    rows = [(word + (0,) * len(other.names), side) for word, side in one.rows]
    more = [((0,) * len(one.names) + word, side) for word, side in other.rows]
    return Plan(one.p, names, tuple(rows + more))


class Blocked:
    """A plan whose runs lie in blocks, by the sums for some block words; it never changes."""

    def __init__(self, plan, words):
        check_plan(plan)
        if not are_words(plan.p, len(plan.names), words) or not 1 <= len(words) <= MOST_FACTORS:
            raise InvalidWords("these are no block words")
        # The words that are constant on each block: the defining ones, and those that are lost.
        self._still, hangs = still_words(plan, words)
        if hangs is not None:
            raise Refused(("hangs", hangs))
        self._plan = plan
        self._words = words

    @property
    def plan(self):
        """The plan."""
        return self._plan

    @property
    def words(self):
        """The block words."""
        return self._words

    @property
    def blocks(self):
        """The numbers of the blocks of the runs, in the order of the runs."""
        return tuple([number_of(self._plan.p, self._words, run) for run in self._plan.runs])

    def __len__(self):
        return len(range(power_of(self._plan.p, len(self._words))))

    def __eq__(self, other):
        return isinstance(other, Blocked) and self._plan == other._plan and self._still == other._still

    def __str__(self):
        return f"{len(self._plan.runs)} runs in {power_of(self._plan.p, len(self._words))} blocks"

    def is_lost(self, word):
        """Whether the class of a word is the same as a sum of multiples of the block words."""
        check_class(self._plan, word)
        return not any(remainder(self._plan.p, word, self._still)) and not self._plan.is_constant(word)

    def is_kept(self, word):
        """Whether the class of a word is neither lost nor constant."""
        check_class(self._plan, word)
        return any(remainder(self._plan.p, word, self._still))

    def lost(self):
        """The normal words of all lost classes, ascending."""
        p = self._plan.p
        check_classes((power_of(p, len(self._still)) - power_of(p, len(self._plan.rows))) // (p - 1))
        words = sums_of_words(p, len(self._plan.names), self._still)
        return tuple(sorted([word for word in words if is_normal(word) and not self._plan.is_constant(word)]))

    def table_with(self, names):
        """The table of the plan with a factor for each block word."""
        if not are_names(names) or len(names) != len(self._words):
            raise InvalidPlan("this is no tuple of a different name for each block word")
        if any([name in self._plan.names for name in names]):
            raise InvalidPlan("a factor of the plan has one of the names")
        if len(names) + len(self._plan.names) > MAX_COLUMNS:
            raise TooMany(MAX_COLUMNS)
        table = self._plan.as_table()
        levels = level_names(self._plan.p)
        for name, word in zip(names, self._words):
            sides = [side_of(self._plan.p, word, run) for run in self._plan.runs]
            table = table.with_column(name, Factor(levels, tuple(sides)))
        return table


def still_words(plan, words):
    """The reduced words of a plan and of block words, and the index of the first block word that hangs, or None."""
    ahead = tuple([word for word, _ in plan.rows])
    kept, hangs = reduced_words(plan.p, len(plan.names), ahead + words)
    return kept, None if hangs is None else hangs - len(ahead)


def number_of(p, words, run):
    """The sums of a run for some words, read as figures to the base p."""
    number = 0
    for word in words:
        number = number * p + side_of(p, word, run)
    return number


def squares(p):
    """The squares of signs of which each two, laid over one another, have each pair of signs once."""
    check_prime(p)
    signs = range(p)
    return tuple([tuple([tuple([(by * i + j) % p for j in signs]) for i in signs]) for by in range(1, p)])


def squares_plan(p):
    """The plan of the rows, the columns and the signs of these squares."""
    check_prime(p)
    names = tuple([LETTERS[place] for place in range(p + 1)])
    return Plan(p, names, tuple([(sign_word(p, by), 0) for by in range(1, p)]))


def sign_word(p, by):
    """The word that tells the signs of a square by rows and columns."""
    return (by, 1) + tuple([p - 1 if other == by else 0 for other in range(1, p)])
