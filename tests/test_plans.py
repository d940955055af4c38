"""Stage 9: plans."""

import itertools
import random

from tests.making import model_of
from tests.support import Case, r, wrong_values
from tests.test_words import PRIMES, random_word, slow_span
from worthstead.errors import InvalidFormula, InvalidPlan, InvalidWords, Refused
from worthstead.exact.spaces import Space
from worthstead.formulas.formulas import Formula
from worthstead.formulas.shadows import shadow_of
from worthstead.models.models import Model
from worthstead.plans.plans import Plan
from worthstead.plans.words import normal, support
from worthstead.tables.columns import Factor

HALF = Plan(2, ("a", "b", "c"), (((1, 1, 1), 0),))
NAMES = tuple("abcdefgh")


def normal_words(p, many):
    return [word for word in itertools.product(range(p), repeat=many) if any(word) and normal(p, word) == word]


def side_of(p, word, run):
    return sum(a * b for a, b in zip(word, run)) % p


def random_plan(rng, most_words=100, most_runs=64):
    while True:
        p = rng.choice(PRIMES)
        many = rng.randint(1, 5)
        rows = tuple((random_word(rng, p, many), rng.randrange(p)) for _ in range(rng.randint(0, many)))
        if p ** many > 700 or p ** (many - len(rows)) > most_runs or p ** len(rows) > most_words:
            continue
        names = tuple(rng.sample(NAMES, many))
        try:
            return Plan(p, names, rows), rows
        except Refused:
            continue


def slow_runs(plan, rows):
    return tuple(
        run for run in itertools.product(range(plan.p), repeat=len(plan.names))
        if all(side_of(plan.p, word, run) == side for word, side in rows)
    )


def slow_same(plan, words, one, other):
    """Whether two classes are the same, by the defining words."""
    p = plan.p
    return any(
        tuple((by * a + b) % p for a, b in zip(one, word)) == other for by in range(1, p) for word in words
    )


def functions_of(plan, word):
    """The space of the functions that hang on a class alone, and whose values add up to 0."""
    p = plan.p
    sides = [side_of(p, word, run) for run in plan.runs]
    return Space(len(sides), tuple(tuple(r(int(side == by)) for side in sides) for by in range(p))).behind(
        Space.ones(len(sides))
    )


class PlanTest(Case):
    def test_by_chance(self):
        rng = random.Random(105)
        for _ in range(80):
            plan, rows = random_plan(rng)
            self.assertEqual(plan.runs, slow_runs(plan, rows))
            self.assertEqual(len(plan), plan.p ** (len(plan.names) - len(rows)))
            self.assertEqual(tuple(plan), plan.runs)
            self.assertEqual(plan, Plan(plan.p, plan.names, plan.rows))
            for run in itertools.product(range(plan.p), repeat=len(plan.names)):
                self.assertEqual(run in plan, run in plan.runs)

    def test_small_ones(self):
        self.assertEqual((HALF.p, HALF.names, HALF.rows), (2, ("a", "b", "c"), (((1, 1, 1), 0),)))
        self.assertEqual(str(HALF), "plan of 4 runs, 3 factors of 2")
        other = Plan(3, ("b", "a"), (((1, 1), 2),))
        self.assertEqual(other.runs, ((0, 2), (1, 1), (2, 0)))
        self.assertEqual(str(other), "plan of 3 runs, 2 factors of 3")
        self.assertEqual(Plan(5, ("x",), ()).runs, ((0,), (1,), (2,), (3,), (4,)))
        full = Plan(2, ("a", "b"), (((0, 1), 1), ((1, 1), 0)))
        self.assertEqual((full.runs, full.rows), (((1, 1),), (((1, 0), 1), ((0, 1), 1))))

    def test_equal(self):
        one = Plan(3, ("a", "b", "c"), (((1, 2, 0), 1), ((0, 1, 1), 2)))
        self.assertEqual(one, Plan(3, ("a", "b", "c"), (((1, 0, 1), 0), ((2, 1, 0), 2))))
        for other in (
            Plan(3, ("a", "c", "b"), (((1, 2, 0), 1), ((0, 1, 1), 2))), Plan(3, ("a", "b", "c"), (((1, 2, 0), 1),)),
            Plan(3, ("a", "b", "c"), (((1, 2, 0), 0), ((0, 1, 1), 2))), Plan(2, ("a", "b", "c"), ()),
        ):
            self.assertNotEqual(one, other)
        self.assertNotEqual(Plan(2, ("a",), ()), Plan(3, ("a",), ()))
        for value in wrong_values():
            self.assertFalse(one == value)
            self.assertFalse(value in one)

    def test_what_is_a_run(self):
        self.assertIn((0, 1, 1), HALF)
        for value in ((False, 1, 1), (0, True, 1), [0, 1, 1], (0, 1), (0, 1, 1, 0), (2, 1, 1), (0, 0, 1), (r(0), 1, 1)):
            self.assertNotIn(value, HALF)

    def test_128_runs(self):
        self.assertEqual(len(Plan(2, NAMES[:7], ())), 128)
        self.too_many(128, Plan, 2, NAMES, ())
        self.assertEqual(len(Plan(2, NAMES, (((1,) * 8, 1),))), 128)
        self.assertEqual(len(Plan(5, NAMES[:3], ())), 125)
        self.too_many(128, Plan, 7, NAMES[:3], ())
        self.refused(("hangs", 0), Plan, 7, NAMES[:5], (((0,) * 5, 0),))
        ones = tuple((tuple(int(at == place) for at in range(8)), 6) for place in range(8))
        self.assertEqual(Plan(7, NAMES, ones).runs, ((6,) * 8,))
        self.assertEqual(len(Plan(7, NAMES, ones[:6])), 49)

    def test_wrong_arguments(self):
        for value in wrong_values() + [4, 11]:
            if not (type(value) is int and value in PRIMES):
                self.number(value, Plan, value, None, None)
        self.all_rejected(InvalidPlan, lambda one: Plan(2, one, None), right=(("a",),))
        for wrong in ((), tuple("abcdefghi"), ("a", "a"), ["a"], ("a", "B"), "ab", ("a", 1)):
            self.raises(InvalidPlan, Plan, 2, wrong, ())
        self.all_rejected(InvalidPlan, lambda one: Plan(2, ("a",), one), right=((),))
        right = ((1, 0), 0)
        for wrong in ([right], (right,) * 3, (((1,), 0),), (((1, 0), 2),), (((1, True), 0),), (((1, 0), False),), ((1, 0),)):
            self.raises(InvalidPlan, Plan, 2, ("a", "b"), wrong)
        self.refused(("hangs", 1), Plan, 2, ("a", "b"), (right, ((1, 0), 1)))
        self.refused(("hangs", 0), Plan, 3, ("a", "b"), (((0, 0), 0),))
        self.raises(InvalidPlan, Plan, 2, ("a", "a"), (right, right))


class ClassTest(Case):
    def test_by_chance(self):
        rng = random.Random(106)
        for _ in range(25):
            plan, rows = random_plan(rng, most_words=30)
            p, many = plan.p, len(plan.names)
            words = slow_span(p, many, [word for word, _ in rows])
            classes = normal_words(p, many)
            constants = tuple(word for word in classes if word in words)
            self.assertEqual(plan.constants(), constants)
            sets = {}
            for word in classes:
                self.assertEqual(plan.is_constant(word), word in constants)
                if word not in constants:
                    key = min(normal(p, tuple((a + b) % p for a, b in zip(word, one))) for one in words)
                    sets.setdefault(key, []).append(word)
            wanted = tuple(sorted(tuple(one) for one in sets.values()))
            self.assertEqual(plan.alias_sets(), wanted)
            # As many sets, with as many classes, as the document tells.
            self.assertEqual(len(wanted), (len(plan) - 1) // (p - 1))
            self.assertEqual({len(one) for one in wanted} - {len(words)}, set())
            for _ in range(10):
                one, other = rng.choice(classes), rng.choice(classes)
                same = slow_same(plan, words, one, other)
                self.assertEqual(plan.is_same(one, other), same)
                by = rng.randint(1, p - 1)
                self.assertEqual(plan.is_same(one, tuple(by * entry % p for entry in other)), same)
                found = [one for one in wanted + (constants,) if other in one]
                self.assertEqual([plan.alias_set(other)], found)
                self.assertEqual(same, one in found[0])
            self.assertTrue(plan.is_constant((0,) * many))

    def test_spaces_of_classes(self):
        rng = random.Random(107)
        for _ in range(15):
            plan, rows = random_plan(rng, most_words=30, most_runs=27)
            p = plan.p
            spaces = [functions_of(plan, one[0]) for one in plan.alias_sets()]
            whole = Space.ones(len(plan))
            for one, aliases in zip(spaces, plan.alias_sets()):
                self.assertEqual(len(one), p - 1)
                self.assertTrue(whole.is_square_to(one))
                whole = whole + one
                for word in rng.sample(aliases, min(3, len(aliases))):
                    self.assertEqual(plan.space_of(word), one)
                    self.assertEqual(plan.space_of(tuple((p - 1) * entry % p for entry in word)), one)
            for word in plan.constants()[:3]:
                self.assertEqual(plan.space_of(word), Space(len(plan), ()))
            self.assertEqual(whole, Space.whole(len(plan)))

    def test_moved(self):
        rng = random.Random(108)
        moved = apart = 0
        for _ in range(60):
            plan, rows = random_plan(rng, most_words=30)
            p, many = plan.p, len(plan.names)
            words = slow_span(p, many, [word for word, _ in rows])
            for _ in range(6):
                one = random_word(rng, p, many)
                by = rng.randint(1, p - 1)
                other = random_word(rng, p, many)
                if rng.random() < 0.6:
                    other = tuple((by * a + b) % p for a, b in zip(one, rng.choice(words)))
                if not any(one) or not any(other):
                    self.raises(InvalidWords, plan.moved, one, other)
                    continue
                if plan.is_constant(one) or not plan.is_same(one, other):
                    apart += 1
                    self.refused(("apart",), plan.moved, one, other)
                    continue
                moved += 1
                found, side = plan.moved(one, other)
                self.assertTrue(1 <= found < p and 0 <= side < p)
                for run in plan:
                    self.assertEqual(side_of(p, other, run), (found * side_of(p, one, run) + side) % p)
        self.assertGreater(min(moved, apart), 40)

    def test_moved_with_sides(self):
        plan = Plan(5, ("a", "b", "c"), (((1, 2, 0), 3), ((0, 0, 1), 4)))
        self.assertEqual(plan.moved((1, 0, 0), (0, 1, 0)), (2, 4))
        self.assertEqual(plan.moved((2, 0, 0), (0, 1, 0)), (1, 4))
        self.assertEqual(plan.moved((0, 1, 0), (0, 1, 1)), (1, 4))
        self.refused(("apart",), plan.moved, (0, 0, 1), (0, 0, 2))
        self.refused(("apart",), plan.moved, (0, 0, 1), (0, 1, 0))

    def test_4096_classes(self):
        ones = lambda many, size: tuple((tuple(int(at == place) for at in range(size)), 0) for place in range(many))  # noqa: E731
        wide = Plan(3, NAMES, ones(8, 8))
        self.assertEqual(len(wide.constants()), 3280)
        self.assertEqual(wide.alias_sets(), ())
        self.assertEqual(len(wide.alias_set((1,) * 8)), 3280)
        five = Plan(5, NAMES[:7], ones(6, 7))
        self.assertEqual(len(five.constants()), 3906)
        self.too_many(4096, five.alias_sets)
        self.too_many(4096, five.alias_set, (0,) * 6 + (1,))
        self.assertEqual(len(five.alias_set((1,) + (0,) * 6)), 3906)
        six = Plan(5, NAMES[:6], ones(5, 6))
        self.assertEqual(len(six.alias_set((0,) * 5 + (3,))), 3125)
        self.assertEqual([len(one) for one in six.alias_sets()], [3125])
        seven = Plan(7, NAMES[:6], ones(6, 6))
        self.too_many(4096, seven.constants)
        self.too_many(4096, seven.alias_sets)
        self.too_many(4096, seven.alias_set, (1,) * 6)
        self.assertEqual(len(Plan(7, NAMES[:6], ones(5, 6)).constants()), 2801)
        self.raises(InvalidWords, seven.alias_set, (0,) * 6)

    def test_wrong_words(self):
        plan = Plan(3, ("a", "b"), (((1, 1), 0),))
        calls = (
            plan.is_constant, plan.alias_set, plan.space_of, lambda word: plan.is_same(word, (1, 0)),
            lambda word: plan.is_same((1, 0), word), lambda word: plan.moved(word, (1, 0)), lambda word: plan.moved((1, 0), word),
        )
        for call in calls:
            self.all_rejected(InvalidWords, call)
            for wrong in ((1,), (1, 0, 0), (1, 3), (-1, 0), (True, 0), [1, 0], (1, None)):
                self.raises(InvalidWords, call, wrong)
            if call != calls[0]:
                self.raises(InvalidWords, call, (0, 0))
        self.assertTrue(plan.is_constant((0, 0)))

    def test_64_runs(self):
        self.assertEqual(len(Plan(2, NAMES[:6], ()).space_of((1,) * 6)), 1)
        big = Plan(2, NAMES[:7], ())
        self.too_many(64, big.space_of, (1,) * 7)
        self.raises(InvalidWords, big.space_of, (0,) * 7)
        self.assertEqual(len(Plan(7, NAMES[:2], ()).space_of((1, 3))), 6)
        self.too_many(64, Plan(3, NAMES[:4], ()).space_of, (1, 0, 0, 2))


class SpreadTest(Case):
    def test_by_chance(self):
        rng = random.Random(109)
        words = set()
        for _ in range(60):
            plan, rows = random_plan(rng, most_words=60)
            p, many = plan.p, len(plan.names)
            defining = slow_span(p, many, [word for word, _ in rows])
            evens = {}
            for size in range(1, many + 1):
                for term in itertools.combinations(sorted(plan.names), size):
                    places = [plan.names.index(name) for name in term]
                    counts = {}
                    for run in plan:
                        choice = tuple(run[place] for place in places)
                        counts[choice] = counts.get(choice, 0) + 1
                    found = plan.spread(term)
                    words.add(found[0])
                    even = len(counts) == p ** size and len(set(counts.values())) == 1
                    evens[size] = evens.get(size, True) and even
                    if even:
                        self.assertEqual(found, ("even", counts[(0,) * size]))
                    else:
                        inside = [
                            word for word in defining
                            if any(word) and normal(p, word) == word and set(support(word)) <= set(places)
                        ]
                        self.assertEqual(found, ("uneven", min(inside)))
            strength = max([size for size in evens if all(evens[one] for one in range(1, size + 1))], default=0)
            self.assertEqual(plan.strength(), strength)
        self.assertEqual(words, {"even", "uneven"})

    def test_strength(self):
        self.assertEqual(HALF.strength(), 2)
        self.assertEqual(Plan(3, ("a", "b"), ()).strength(), 2)
        self.assertEqual(Plan(3, ("a", "b"), (((1, 0), 1),)).strength(), 0)
        self.assertEqual(Plan(2, NAMES, (((1,) * 8, 1),)).strength(), 7)

    def test_wrong_terms(self):
        for call in (HALF.spread, lambda term: HALF.told_alone(term, ()), lambda term: HALF.told_alone(term, None)):
            self.all_rejected(InvalidFormula, call, right=(("a",),))
            for wrong in ((), ("b", "a"), ("a", "a"), ("d",), ["a"], "a", ("a", "d")):
                self.raises(InvalidFormula, call, wrong)
        self.assertEqual(Plan(2, ("b", "a"), ()).spread(("a", "b")), ("even", 1))


class LengthTest(Case):
    def test_by_chance(self):
        rng = random.Random(110)
        for _ in range(60):
            plan, rows = random_plan(rng)
            many = len(plan.names)
            words = slow_span(plan.p, many, [word for word, _ in rows])
            self.assertEqual(plan.lengths(), tuple(len([w for w in words if len(support(w)) == at]) for at in range(many + 1)))
            for run in plan.runs[:5]:
                apart = [len([1 for a, b in zip(run, other) if a != b]) for other in plan]
                self.assertEqual(plan.distances(), tuple(apart.count(at) for at in range(many + 1)))

    def test_each_from_the_other(self):
        rng = random.Random(111)
        for _ in range(30):
            plan, rows = random_plan(rng)
            p, many = plan.p, len(plan.names)

            def coefficients(i):
                found = [1]
                for at in range(many):
                    by = -1 if at < i else p - 1
                    found = [a + by * b for a, b in zip(found + [0], [0] + found)]
                return found

            lengths, distances = plan.lengths(), plan.distances()
            for j in range(many + 1):
                made = sum(lengths[i] * coefficients(i)[j] for i in range(many + 1))
                self.assertEqual(made, distances[j] * p ** len(rows))
                made = sum(distances[i] * coefficients(i)[j] for i in range(many + 1))
                self.assertEqual(made, lengths[j] * len(plan))

    def test_no_bound(self):
        ones = tuple((tuple(int(at == place) for at in range(8)), 1) for place in range(8))
        plan = Plan(7, NAMES, ones)
        self.assertEqual(plan.lengths(), (1, 48, 1008, 12096, 90720, 435456, 1306368, 2239488, 1679616))
        self.assertEqual(plan.distances(), (1,) + (0,) * 8)
        self.assertEqual(plan.strength(), 0)


class TableTest(Case):
    def test_tables(self):
        table = HALF.as_table()
        self.assertEqual(table.names, ("a", "b", "c"))
        self.assertEqual(table["c"], Factor(("l0", "l1"), (0, 1, 1, 0)))
        self.assertEqual(table["a"], Factor(("l0", "l1"), (0, 0, 1, 1)))
        other = Plan(7, ("b", "a"), (((1, 1), 3),)).as_table()
        self.assertEqual(other["b"].levels, tuple(f"l{at}" for at in range(7)))
        self.assertEqual((other["b"].codes, other["a"].codes), ((0, 1, 2, 3, 4, 5, 6), (3, 2, 1, 0, 6, 5, 4)))
        self.assertEqual(len(Plan(2, NAMES[:7], ()).as_table()), 128)

    def test_ranks_of_formulas(self):
        rng = random.Random(112)
        for _ in range(60):
            plan, rows = random_plan(rng, most_words=30, most_runs=49)
            names = sorted(plan.names)
            terms = {tuple(sorted(rng.sample(names, rng.randint(1, min(2, len(names)))))) for _ in range(rng.randint(1, 3))}
            formula = Formula(tuple(sorted(terms)))
            kinds = {name: "factor" for name in names}
            pairs = shadow_of(formula, kinds)
            if sum((plan.p - 1) ** len(pair[1]) for pair in pairs) > 24:
                continue
            sets = [tuple(sorted(plan.names.index(name) for name in pair[1])) for pair in pairs]
            met = [one for one in plan.alias_sets() if any(support(word) in sets for word in one)]
            self.assertEqual(len(Model(plan.as_table(), formula).space), 1 + (plan.p - 1) * len(met))
        self.assertEqual(len(model_of(HALF.as_table(), "a*b*c").space), 4)


class ToldAloneTest(Case):
    def slow(self, plan, rows, term, beside):
        p, many = plan.p, len(plan.names)
        words = slow_span(p, many, [word for word, _ in rows])

        def on(one):
            places = tuple(sorted(plan.names.index(name) for name in one))
            return [word for word in normal_words(p, many) if support(word) == places]

        own = on(term)
        others = sorted(word for one in beside for word in on(one))
        constants = [word for word in own if word in words]
        if constants:
            return "constant", min(constants)
        pairs = [(a, b) for a in own for b in own if a < b and slow_same(plan, words, a, b)]
        if pairs:
            return ("own",) + min(pairs)
        met = [(a, b) for a in own for b in others if slow_same(plan, words, a, b)]
        return ("met",) + min(met) if met else ("alone",)

    def test_by_chance(self):
        rng = random.Random(113)
        words = {}
        for _ in range(120):
            plan, rows = random_plan(rng, most_words=30)
            names = sorted(plan.names)
            every = [one for size in range(1, len(names) + 1) for one in itertools.combinations(names, size)]
            term = rng.choice(every)
            beside = tuple(one for one in rng.sample(every, min(3, len(every))) if one != term)
            found = plan.told_alone(term, beside)
            self.assertEqual(found, self.slow(plan, rows, term, beside))
            words[found[0]] = words.get(found[0], 0) + 1
            if found == ("alone",) and len(plan) <= 64:
                whole, size = Space(len(plan), ()), 0
                places = tuple(sorted(plan.names.index(name) for name in term))
                for word in normal_words(plan.p, len(names)):
                    if support(word) == places:
                        whole, size = whole + plan.space_of(word), size + 1
                self.assertEqual(len(whole), (plan.p - 1) ** len(term))
                self.assertEqual(size, (plan.p - 1) ** (len(term) - 1))
        self.assertEqual(sorted(words), ["alone", "constant", "met", "own"])

    def test_small_ones(self):
        self.assertEqual(HALF.told_alone(("a", "b", "c"), ()), ("constant", (1, 1, 1)))
        self.assertEqual(HALF.told_alone(("a",), (("b", "c"), ("b", "c"))), ("met", (1, 0, 0), (0, 1, 1)))
        three = Plan(3, ("a", "b", "c"), (((1, 1, 1), 0),))
        self.assertEqual(three.told_alone(("a", "b"), ()), ("alone",))
        self.assertEqual(three.told_alone(("a", "b"), (("c",),)), ("met", (1, 1, 0), (0, 0, 1)))
        self.assertEqual(three.told_alone(("a", "b", "c"), ()), ("constant", (1, 1, 1)))
        # Each class of a told sum need not be told alone, and here two of one term are the same.
        four = Plan(3, ("a", "b", "c", "d"), (((1, 1, 1, 0), 0), ((0, 1, 2, 1), 0)))
        self.assertEqual(four.told_alone(("a", "b"), ())[0], "alone")
        five = Plan(5, ("a", "b"), (((1, 1), 0),))
        self.assertEqual(five.told_alone(("a", "b"), ()), ("constant", (1, 1)))
        own = Plan(3, ("a", "b", "c"), (((0, 1, 0), 0),))
        self.assertEqual(own.told_alone(("a", "b"), ()), ("own", (1, 1, 0), (1, 2, 0)))

    def test_wrong_beside(self):
        self.all_rejected(InvalidFormula, lambda one: HALF.told_alone(("a",), one), right=((), (("b",),)))
        for wrong in (
            (("a",),), (("b",), ("a",)), [("b",)], (("b", "a"),), (("d",),), ((),), ("b",), (("b",),) * 65, (["b"],),
        ):
            self.raises(InvalidFormula, HALF.told_alone, ("a",), wrong)
        self.assertEqual(HALF.told_alone(("a",), (("b",),) * 64), ("alone",))

    def test_4096_classes(self):
        ones = tuple((tuple(int(at == place) for at in range(8)), 0) for place in range(8))
        seven = Plan(7, NAMES, ones)
        self.assertEqual(seven.told_alone(NAMES[:5], ())[0], "constant")
        self.too_many(4096, seven.told_alone, NAMES[:6], ())
        self.too_many(4096, seven.told_alone, NAMES[:5], (NAMES[:1], NAMES[:6]))
        five = Plan(5, NAMES, ones[:5])
        self.assertEqual(five.told_alone(NAMES[:7], ()), ("own", (1, 1, 1, 1, 1, 1, 1, 0), (1, 1, 1, 1, 1, 2, 2, 0)))
        self.too_many(4096, five.told_alone, NAMES, ())
        self.too_many(4096, five.told_alone, NAMES[:1], (NAMES,))
        self.raises(InvalidFormula, five.told_alone, NAMES, (NAMES,))
