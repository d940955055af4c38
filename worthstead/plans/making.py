"""Plans made so that they keep some classes apart.

The search has a number for each word, its entries read as figures, so that numbers ascend as words do.
"""

from worthstead.errors import InvalidNumber, InvalidWords, TooMany
from worthstead.exact.ratios import is_between
from worthstead.plans.fields import added, all_words, is_normal, lead_of, multiple, normal_of, power_of
from worthstead.plans.plans import MOST_RUNS, Plan, check_plan, check_plan_names, class_key
from worthstead.plans.words import are_words, check_many, check_prime

MOST_WANTED = 64


def struck(p, many, wanted, *, beside=()):
    """The normal words of all struck classes, ascending."""
    check_prime(p)
    check_many(many)
    check_classes_told(p, many, wanted, beside)
    return tuple(struck_words(p, wanted, beside))


def is_right(plan, wanted, *, beside=()):
    """Whether a plan is right for some wanted classes, beside some others."""
    check_plan(plan)
    check_classes_told(plan.p, len(plan.names), wanted, beside)
    keys = [class_key(plan, word) for word in wanted]
    others = [class_key(plan, word) for word in beside]
    return len(set(keys)) == len(keys) and all([any(key) and key not in others for key in keys])


def least(p, names, wanted, *, beside=()):
    """The right plan with the fewest runs."""
    check_making(p, names, wanted, beside)
    check_runs(p, names)
    search = Search(p, len(names), struck_words(p, wanted, beside))
    rows = len(names)
    words = search.first_words(rows)
    while words is None:
        rows -= 1
        words = search.first_words(rows)
    return plan_of(p, names, words)


def least_with(p, names, wanted, rows, *, beside=()):
    """The first right plan with just so many rows, or None."""
    check_making_with(p, names, wanted, rows, beside)
    words = Search(p, len(names), struck_words(p, wanted, beside)).first_words(rows)
    return None if words is None else plan_of(p, names, words)


def count_right(p, names, wanted, rows, *, beside=()):
    """How many right plans with just so many rows there are."""
    check_making_with(p, names, wanted, rows, beside)
    return Search(p, len(names), struck_words(p, wanted, beside)).count_all(rows)


def check_making(p, names, wanted, beside):
    """Raise an error unless these tell what plans are made for."""
    check_prime(p)
    check_plan_names(names)
    check_classes_told(p, len(names), wanted, beside)


def check_making_with(p, names, wanted, rows, beside):
    """The same with a number of rows, and then for not too many runs without rows."""
    check_prime(p)
    check_plan_names(names)
    check_told(p, len(names), wanted)
    if not is_between(rows, 0, len(names)):
        raise InvalidNumber(rows)
    check_classes_told(p, len(names), wanted, beside)
    check_runs(p, names)


def check_runs(p, names):
    """Raise an error if there are too many runs without rows."""
    if power_of(p, len(names)) > MOST_RUNS:
        raise TooMany(MOST_RUNS)


def check_told(p, many, value):
    """Raise an error unless the value is a tuple of not too many words of different classes."""
    if not are_words(p, many, value) or len(value) > MOST_WANTED or not all([any(word) for word in value]):
        raise InvalidWords("this is no tuple of not too many words other than the zero word")
    if len(set([normal_of(p, word) for word in value])) != len(value):
        raise InvalidWords("two words are of one class")


def check_classes_told(p, many, wanted, beside):
    """Raise an error unless wanted classes, and others beside them, are told."""
    check_told(p, many, wanted)
    check_told(p, many, beside)
    classes = [normal_of(p, word) for word in wanted]
    if any([normal_of(p, word) in classes for word in beside]):
        raise InvalidWords("a class is wanted, and told beside the wanted ones, too")


def struck_words(p, wanted, beside):
    """The ascending list of the normal words of all struck classes."""
    classes = [normal_of(p, word) for word in wanted]
    others = classes + [normal_of(p, word) for word in beside]
    found = {word: True for word in classes}
    for word in classes:
        for other in others:
            if other != word:
                for by in range(1, p):
                    found[normal_of(p, added(p, word, other, -by))] = True
    return sorted(list(found))


def plan_of(p, names, words):
    """The plan with these words and all sides 0."""
    return Plan(p, names, tuple([(word, 0) for word in words]))


class Search:
    """All plans for so many factors on which no struck class is constant, by their reduced words."""

    def __init__(self, p, many, barred):
        self._p = p
        self._many = many
        self._words = all_words(p, many)
        self._normal = [number for number, word in enumerate(self._words) if is_normal(word)]
        self._leads = [lead_of(word) for word in self._words]
        numbers = {word: number for number, word in enumerate(self._words)}
        self._sums = [[numbers[added(p, word, other, 1)] for other in self._words] for word in self._words]
        self._barred = [False] * len(self._words)
        for word in barred:
            for by in range(1, p):
                self._barred[numbers[multiple(p, word, by)]] = True

    def first_words(self, rows):
        """The words of the first plan with so many rows, or None."""
        found = self.first_from([], self._barred, rows)
        return None if found is None else [self._words[number] for number in found]

    def first_from(self, chosen, barred, rows):
        """The first plan that goes on from chosen words, as numbers, or None."""
        if len(chosen) == rows:
            return chosen
        for number in self.further(chosen, barred, rows):
            found = self.first_from(chosen + [number], self.barred_with(barred, number), rows)
            if found is not None:
                return found
        return None

    def count_all(self, rows):
        """How many plans with so many rows there are."""
        return self.count_from([], self._barred, rows)

    def count_from(self, chosen, barred, rows):
        """How many plans go on from chosen words."""
        if len(chosen) == rows:
            return 1
        numbers = self.further(chosen, barred, rows)
        if len(chosen) == rows - 1:
            return len(numbers)
        found = 0
        for number in numbers:
            found = found + self.count_from(chosen + [number], self.barred_with(barred, number), rows)
        return found

    def further(self, chosen, barred, rows):
        """The numbers of the words that can follow chosen ones in a plan with so many rows, ascending."""
        start = self._leads[chosen[-1]] + 1 if chosen else 0
        # At the lead of a word all words ahead of it have 0, and each word still to come has a lead behind it.
        free = [not any([self._words[number][place] for number in chosen]) for place in range(self._many)]
        leads = [place for place in range(start, self._many) if free[place]]
        first_leads = leads[:max(0, len(leads) + len(chosen) + 1 - rows)]
        return [number for number in self._normal if self._leads[number] in first_leads and not barred[number]]

    def barred_with(self, barred, number):
        """What is barred where a word is chosen, too: each word that makes a barred one with a multiple of it."""
        found = barred
        by = number
        for _ in range(1, self._p):
            found = [one or barred[other] for one, other in zip(found, self._sums[by])]
            by = self._sums[by][number]
        return found
