"""Plans: runs of factors with a prime number of levels, told by defining words."""

from worthstead.errors import InvalidFormula, InvalidPlan, Refused, TooMany
from worthstead.exact.ratios import Ratio
from worthstead.exact.spaces import MAX_WIDTH, Space
from worthstead.formulas.terms import is_term
from worthstead.names import are_names
from worthstead.plans.fields import (
    MOST_FACTORS,
    added,
    all_words,
    class_total,
    inverse_of,
    is_normal,
    lead_of,
    normal_of,
    normal_words,
    power_of,
    reduced_words,
    remainder,
    sums_of_words,
)
from worthstead.plans.lengths import distances_of, lengths_of
from worthstead.plans.words import (
    are_rows_for,
    check_not_zero,
    check_prime,
    check_word,
    is_word_for,
    reduced_rows_of,
    side_of,
)
from worthstead.tables.columns import Factor
from worthstead.tables.tables import Table

MOST_RUNS = 128
MOST_CLASSES = 4096
MOST_BESIDE = 64


class Plan:
    """All runs that fulfil some rows; it never changes."""

    def __init__(self, p, names, rows):
        check_prime(p)
        check_plan_names(names)
        if not are_rows_for(p, len(names), rows):
            raise InvalidPlan("this is no tuple of not too many rows for these factors")
        self._p = p
        self._names = names
        self._rows = reduced_rows_of(p, len(names), rows)
        self._words = tuple([word for word, _ in self._rows])
        if power_of(p, len(names) - len(rows)) > MOST_RUNS:
            raise TooMany(MOST_RUNS)
        self._runs = runs_of(p, len(names), self._rows)

    @property
    def p(self):
        """The number of levels of each factor."""
        return self._p

    @property
    def names(self):
        """The names of the factors."""
        return self._names

    @property
    def rows(self):
        """The reduced rows."""
        return self._rows

    @property
    def runs(self):
        """The ascending tuple of the runs."""
        return self._runs

    def __contains__(self, x):
        return is_word_for(self._p, len(self._names), x) and x in self._runs

    def __len__(self):
        return len(self._runs)

    def __iter__(self):
        return iter(self._runs)

    def __eq__(self, other):
        return (
            isinstance(other, Plan) and self._p == other._p and self._names == other._names
            and self._rows == other._rows
        )

    def __str__(self):
        return f"plan of {len(self._runs)} runs, {len(self._names)} factors of {self._p}"

    def is_constant(self, word):
        """Whether a word is a defining word."""
        check_word(self._p, len(self._names), word)
        return not any(remainder(self._p, word, self._words))

    def is_same(self, word, other):
        """Whether the classes of two words are the same on the plan."""
        check_class(self, word)
        check_class(self, other)
        return class_key(self, word) == class_key(self, other)

    def constants(self):
        """The normal words of all constant classes, ascending."""
        check_classes(class_total(self._p, len(self._words)))
        words = sums_of_words(self._p, len(self._names), self._words)
        return tuple(sorted([word for word in words if is_normal(word)]))

    def alias_set(self, word):
        """The normal words of all classes that are the same as that of a word, ascending."""
        check_class(self, word)
        if self.is_constant(word):
            return self.constants()
        check_classes(power_of(self._p, len(self._words)))
        words = sums_of_words(self._p, len(self._names), self._words)
        return tuple(sorted([normal_of(self._p, added(self._p, word, one, 1)) for one in words]))

    def alias_sets(self):
        """All alias sets, ascending."""
        check_classes(class_total(self._p, len(self._names)))
        sets = {}
        for word in normal_words(self._p, len(self._names)):
            key = class_key(self, word)
            if any(key):
                sets[key] = sets.get(key, []) + [word]
        return tuple(sorted([tuple(words) for words in list(sets.values())]))

    def moved(self, word, other):
        """The multiple, and what is added to it, that make the sum for the other word of that for the first one."""
        check_class(self, word)
        check_class(self, other)
        key = class_key(self, word)
        if not any(key) or key != class_key(self, other):
            raise Refused(("apart",))
        rows = [row + (side,) for row, side in self._rows]
        one = remainder(self._p, word + (0,), rows)
        two = remainder(self._p, other + (0,), rows)
        lead = lead_of(key)
        by = two[lead] * inverse_of(self._p, one[lead]) % self._p
        # Behind the words stand the sides that were taken off, less than nothing.
        return by, (by * one[-1] - two[-1]) % self._p

    def strength(self):
        """The greatest number of factors such that all choices of the levels of so many come equally often."""
        for length, total in enumerate(self.lengths()):
            if length > 0 and total:
                return length - 1
        return len(self._names)

    def spread(self, term):
        """How often each choice of the levels of a term comes, or a constant class that tells that this is uneven."""
        check_plan_term(self, term)
        word = least_within(self._p, self._words, [self._names.index(name) for name in term], len(self._names))
        if word is not None:
            return "uneven", word
        return "even", len(self._runs) // power_of(self._p, len(term))

    def lengths(self):
        """How many defining words there are of each length."""
        return tuple(lengths_of(self._p, self._runs, len(self._names)))

    def distances(self):
        """How many runs differ from each one in each number of factors."""
        return tuple(distances_of(self._runs, len(self._names)))

    def space_of(self, word):
        """The space of the functions that hang on a class alone, and whose values add up to 0."""
        check_class(self, word)
        if len(self._runs) > MAX_WIDTH:
            raise TooMany(MAX_WIDTH)
        if self.is_constant(word):
            return Space(len(self._runs), ())
        # The sums for any word of the class part the runs alike, and each of them comes equally often.
        sides = [side_of(self._p, word, run) for run in self._runs]
        rows = [tuple([Ratio(int(side == by) - int(side == 0)) for side in sides]) for by in range(1, self._p)]
        return Space(len(self._runs), tuple(rows))

    def as_table(self):
        """The table of the runs, with a factor for each name."""
        levels = level_names(self._p)
        columns = {
            name: Factor(levels, tuple([run[place] for run in self._runs])) for place, name in enumerate(self._names)
        }
        return Table(columns)

    def told_alone(self, term, beside):
        """That a term is told alone beside some others, or classes that show that it is not."""
        check_plan_term(self, term)
        if not is_beside(self, beside, term):
            raise InvalidFormula("this is no tuple of not too many other terms")
        for one in (term,) + beside:
            if power_of(self._p - 1, len(one) - 1) > MOST_CLASSES:
                raise TooMany(MOST_CLASSES)
        words = words_on(self, term)
        keys = [class_key(self, word) for word in words]
        for word, key in zip(words, keys):
            if not any(key):
                return "constant", word
        pair = first_own_pair(words, keys)
        if pair is not None:
            return ("own",) + pair
        others = least_words(self, beside)
        for word, key in zip(words, keys):
            if key in others:
                return "met", word, others[key]
        return ("alone",)


def check_plan(value):
    """Raise an error unless the value is a plan."""
    if not isinstance(value, Plan):
        raise InvalidPlan("this is no plan")


def check_plan_names(value):
    """Raise an error unless the value is a tuple of one to eight different names."""
    if not are_names(value) or not 1 <= len(value) <= MOST_FACTORS:
        raise InvalidPlan("this is no tuple of one to eight different names")


def check_class(plan, word):
    """Raise an error unless the value is a word for the factors of a plan, and not the zero word."""
    check_word(plan.p, len(plan.names), word)
    check_not_zero(word)


def check_classes(total):
    """Raise an error for too many classes."""
    if total > MOST_CLASSES:
        raise TooMany(MOST_CLASSES)


def is_plan_term(plan, value):
    """Whether the value is an ascending tuple of one or more names of a plan."""
    return is_term(value) and len(value) > 0 and all([name in plan.names for name in value])


def check_plan_term(plan, value):
    """Raise an error unless the value is a term of a plan."""
    if not is_plan_term(plan, value):
        raise InvalidFormula("this is no term of the factors of the plan")


def is_beside(plan, value, term):
    """Whether the value is a tuple of not too many terms other than this one."""
    if not isinstance(value, tuple) or len(value) > MOST_BESIDE:
        return False
    return all([is_plan_term(plan, one) and one != term for one in value])


def runs_of(p, many, rows):
    """The ascending tuple of the runs that fulfil reduced rows."""
    leads = [lead_of(word) for word, _ in rows]
    free = [place for place in range(many) if place not in leads]
    return tuple(sorted([run_with(p, many, rows, free, choice) for choice in all_words(p, len(free))]))


def run_with(p, many, rows, free, choice):
    """The run with chosen levels at the free places, and those at the leads that fulfil the rows."""
    run = [0] * many
    for place, level in zip(free, choice):
        run[place] = level
    for word, side in rows:
        # A row has 0 at all other leads, and the levels there do not matter.
        run[lead_of(word)] = (side - sum([word[place] * run[place] for place in free])) % p
    return tuple(run)


def class_key(plan, word):
    """The normal word that stands for all classes that are the same on a plan, the zero word for constant ones."""
    return normal_of(plan.p, remainder(plan.p, word, [row for row, _ in plan.rows]))


def least_within(p, words, places, many):
    """The least normal word whose support lies within some places, of the sums of multiples of words; or None."""
    inside = sorted(places)
    order = [place for place in range(many) if place not in inside] + inside
    turned = reduced_words(p, many, [tuple([word[place] for place in order]) for word in words])[0]
    # The last one begins last, so nothing but its multiples has only zeros up to there.
    if not turned or lead_of(turned[-1]) < many - len(inside):
        return None
    return tuple([turned[-1][order.index(place)] for place in range(many)])


def words_on(plan, term):
    """The normal words whose support are the places of a term, ascending."""
    places = [plan.names.index(name) for name in term]
    first = min(places)
    words = [()]
    for place in range(len(plan.names)):
        entries = [0]
        if place in places:
            entries = [1] if place == first else list(range(1, plan.p))
        words = [word + (entry,) for word in words for entry in entries]
    return words


def first_own_pair(words, keys):
    """The least pair of words with equal keys, or None; the words ascend."""
    places = {}
    for place, key in enumerate(keys):
        places[key] = places.get(key, []) + [place]
    pairs = [(several[0], several[1]) for several in list(places.values()) if len(several) > 1]
    if not pairs:
        return None
    one, other = min(pairs)
    return words[one], words[other]


def least_words(plan, terms):
    """The dict from the keys of the words of some terms to the least word with this key."""
    found = {}
    for word in sorted([word for term in sorted(set(terms)) for word in words_on(plan, term)]):
        key = class_key(plan, word)
        if key not in found:
            found[key] = word
    return found


def level_names(p):
    """The names of the levels of the factors of plans."""
    return tuple([f"l{level}" for level in range(p)])
