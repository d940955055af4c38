"""Stage 10: plans that are folded, laid side by side, or in blocks; squares."""

import itertools
import random

from tests.support import Case, r, wrong_values
from tests.test_plans import NAMES, normal_words, random_plan, side_of
from tests.test_words import PRIMES, random_word, slow_span
from worthstead.errors import InvalidNumber, InvalidPlan, InvalidWords, Refused
from worthstead.exact.spaces import Space
from worthstead.fits.strata import Strata
from worthstead.formulas.reader import read_formula
from worthstead.models.models import Model
from worthstead.plans.blocks import Blocked, folded, side_by_side, squares, squares_plan
from worthstead.plans.plans import Plan
from worthstead.plans.words import plus, times
from worthstead.tables.columns import Factor

HALF = Plan(2, ("a", "b", "c"), (((1, 1, 1), 0),))
FULL = Plan(2, ("a", "b", "c"), ())
EIGHT = Blocked(FULL, ((1, 1, 1),))


def full(p, many, names=NAMES):
    return Plan(p, tuple(names[:many]), ())


def random_blocked(rng):
    while True:
        plan, rows = random_plan(rng)
        words = tuple(random_word(rng, plan.p, len(plan.names)) for _ in range(rng.randint(1, 3)))
        try:
            return plan, words, Blocked(plan, words)
        except Refused:
            continue


class FoldedTest(Case):
    def test_by_chance(self):
        rng = random.Random(1001)
        grown = 0
        for _ in range(120):
            plan, _ = random_plan(rng)
            shifts = random_word(rng, plan.p, len(plan.names))
            runs = {plus(plan.p, run, times(plan.p, shifts, by)) for run in plan.runs for by in range(plan.p)}
            if len(runs) > 128:
                self.too_many(128, folded, plan, shifts)
                continue
            made = folded(plan, shifts)
            self.assertEqual(set(made.runs), runs)
            self.assertIn(len(made), (len(plan), plan.p * len(plan)))
            self.assertEqual((made.p, made.names), (plan.p, plan.names))
            if len(made) == len(plan):
                self.assertEqual(made, plan)
            grown += len(made) > len(plan)
            still = [row for row in slow_rows(plan) if side_of(plan.p, row[0], shifts) == 0]
            self.assertEqual(sorted(slow_rows(made)), sorted(still))
        self.assertGreater(grown, 30)

    def test_zero_word_changes_nothing(self):
        for plan in (HALF, FULL, Plan(3, ("a", "b"), (((1, 2), 2),))):
            self.assertEqual(folded(plan, (0,) * len(plan.names)), plan)
        self.assertEqual(folded(HALF, (1, 1, 0)), HALF)
        self.assertEqual(folded(HALF, (1, 1, 1)), FULL)

    def test_sides(self):
        plan = Plan(3, ("a", "b", "c"), (((1, 0, 1), 2), ((0, 1, 1), 1)))
        made = folded(plan, (1, 0, 0))
        self.assertEqual(made.rows, (((0, 1, 1), 1),))
        self.assertEqual(folded(plan, (1, 1, 0)).rows, (((1, 2, 0), 1),))

    def test_128_runs(self):
        plan = Plan(2, NAMES, (((1,) * 8, 0), ((1, 1, 0, 0, 0, 0, 0, 0), 1)))
        self.assertEqual(len(folded(plan, (1, 0, 0, 0, 0, 0, 0, 0))), 128)
        self.too_many(128, folded, full_but_one(), (1,) + (0,) * 7)
        self.assertEqual(folded(full_but_one(), (1, 1) + (0,) * 6), full_but_one())
        self.too_many(128, folded, Plan(5, tuple("abcd"), (((1, 1, 1, 1), 3),)), (1, 0, 0, 0))

    def test_wrong_arguments(self):
        self.all_rejected(InvalidPlan, lambda value: folded(value, None))
        self.all_rejected(InvalidWords, lambda value: folded(HALF, value))
        for value in ((0, 0), (0, 0, 2), (0, True, 0), [0, 0, 1], (0, 0, 0, 0)):
            self.raises(InvalidWords, folded, HALF, value)


def full_but_one():
    return Plan(2, NAMES, (((1,) * 8, 0),))


def slow_rows(plan):
    """All defining words with their sides."""
    words = slow_span(plan.p, len(plan.names), [word for word, _ in plan.rows])
    return [(word, side_of(plan.p, word, plan.runs[0])) for word in words]


class SideBySideTest(Case):
    def pairs(self, rng):
        while True:
            one, _ = random_plan(rng, most_runs=16)
            other, _ = random_plan(rng, most_runs=16)
            if one.p == other.p and len(one.names) + len(other.names) <= 8 and len(one) * len(other) <= 128:
                names = tuple(f"{name}1" for name in other.names)
                return one, Plan(other.p, names, other.rows)

    def test_by_chance(self):
        rng = random.Random(1002)
        for _ in range(40):
            one, other = self.pairs(rng)
            both = side_by_side(one, other)
            self.assertEqual(both.names, one.names + other.names)
            self.assertEqual(both.runs, tuple(left + right for left in one.runs for right in other.runs))
            zero, more = (0,) * len(one.names), (0,) * len(other.names)
            for _ in range(20):
                left, right = random_word(rng, one.p, len(zero)), random_word(rng, one.p, len(more))
                self.assertEqual(both.is_constant(left + right), one.is_constant(left) and other.is_constant(right))
                self.assertEqual(both.is_constant(left + more), one.is_constant(left))
                second = random_word(rng, one.p, len(zero))
                if any(left) and any(second):
                    self.assertEqual(both.is_same(left + more, second + more), one.is_same(left, second))
            strengths = [plan.strength() for plan in (one, other) if plan.rows]
            self.assertEqual(both.strength(), min(strengths, default=len(both.names)))

    def test_strength(self):
        other = full(2, 2, "xy")
        self.assertEqual(side_by_side(HALF, other).strength(), 2)
        self.assertEqual(side_by_side(other, HALF).strength(), 2)
        self.assertEqual(side_by_side(FULL, other).strength(), 5)
        point = Plan(2, ("z",), (((1,), 1),))
        self.assertEqual(side_by_side(point, HALF).strength(), 0)
        self.assertEqual(side_by_side(HALF, point).runs[0], (0, 0, 0, 1))

    def test_errors_in_order(self):
        self.all_rejected(InvalidPlan, lambda value: side_by_side(value, None))
        self.all_rejected(InvalidPlan, lambda value: side_by_side(value, HALF))
        self.all_rejected(InvalidPlan, lambda value: side_by_side(HALF, value))
        three = full(3, 1, "x")
        self.raises(InvalidPlan, side_by_side, HALF, three)
        self.raises(InvalidPlan, side_by_side, HALF, full(2, 1))
        # Unlike numbers of levels, or a name in both, come ahead of too many names, these ahead of too many runs.
        self.raises(InvalidPlan, side_by_side, full(2, 7), full(3, 2, "xy"))
        self.raises(InvalidPlan, side_by_side, full(2, 7), full(2, 2, "ax"))
        self.too_many(8, side_by_side, full(2, 7), full(2, 2, "xy"))
        self.too_many(128, side_by_side, full(2, 7), full(2, 1, "x"))
        self.too_many(128, side_by_side, full(5, 2), full(5, 2, "xy"))
        self.assertEqual(len(side_by_side(full(2, 4), full(2, 3, "xyz"))), 128)
        self.assertEqual(len(side_by_side(full(2, 6), Plan(2, ("x", "y"), (((1, 1), 1),)))), 128)


class BlockedTest(Case):
    def test_by_chance(self):
        rng = random.Random(1003)
        for _ in range(60):
            plan, words, blocked = random_blocked(rng)
            p = plan.p
            numbers = []
            for run in plan.runs:
                figures = [side_of(p, word, run) for word in words]
                numbers.append(sum(figure * p ** (len(words) - 1 - at) for at, figure in enumerate(figures)))
            self.assertEqual(blocked.blocks, tuple(numbers))
            self.assertEqual(len(blocked), p ** len(words))
            self.assertEqual({numbers.count(number) for number in range(len(blocked))}, {len(plan) // len(blocked)})
            self.assertEqual((blocked.plan, blocked.words), (plan, words))
            self.assertEqual(str(blocked), f"{len(plan)} runs in {len(blocked)} blocks")
            sums = [word for word in slow_span(p, len(plan.names), list(words)) if any(word)]
            lost = []
            for word in normal_words(p, len(plan.names)):
                is_lost = not plan.is_constant(word) and any(plan.is_same(word, other) for other in sums)
                self.assertEqual(blocked.is_lost(word), is_lost)
                self.assertEqual(blocked.is_kept(word), not is_lost and not plan.is_constant(word))
                self.assertEqual(blocked.is_lost(times(p, word, p - 1)), is_lost)
                if is_lost:
                    lost.append(word)
            self.assertEqual(blocked.lost(), tuple(lost))
            sets = {plan.alias_set(word) for word in lost}
            self.assertEqual(len(sets), (p ** len(words) - 1) // (p - 1))

    def test_spaces(self):
        rng = random.Random(1004)
        for _ in range(12):
            plan, words, blocked = random_blocked(rng)
            if len(plan) > 27:
                continue
            numbers = blocked.blocks
            rows = tuple(
                tuple(r(int(number == other)) for other in numbers) for number in sorted(set(numbers))
            )
            still = Space(len(plan), rows)
            names = tuple(f"k{at}" for at in range(len(words)))
            strata = Strata(Model(blocked.table_with(names), read_formula("1")), names).spaces
            for word in normal_words(plan.p, len(plan.names))[:40]:
                space = plan.space_of(word)
                if blocked.is_lost(word):
                    self.assertTrue(space.is_within(still))
                    sums = [slow_span(plan.p, len(plan.names), list(words[:k])) for k in range(len(words) + 1)]
                    least = min(
                        k for k in range(1, len(words) + 1)
                        if any(any(one) and plan.is_same(word, one) for one in sums[k])
                    )
                    self.assertTrue(space.is_within(strata[least]))
                elif blocked.is_kept(word):
                    self.assertTrue(space.is_square_to(still))
                    self.assertTrue(space.is_within(strata[-1]))

    def test_second_stratum(self):
        blocked = Blocked(full(2, 4), ((1, 1, 0, 0), (0, 0, 1, 1)))
        strata = Strata(Model(blocked.table_with(("p", "q")), read_formula("a")), ("p", "q")).spaces
        for word, at in (((1, 1, 0, 0), 1), ((0, 0, 1, 1), 2), ((1, 1, 1, 1), 2), ((1, 0, 0, 0), 3)):
            self.assertTrue(blocked.plan.space_of(word).is_within(strata[at]))

    def test_hanging_words(self):
        self.refused(("hangs", 0), Blocked, FULL, ((0, 0, 0),))
        self.refused(("hangs", 0), Blocked, HALF, ((1, 1, 1),))
        self.refused(("hangs", 1), Blocked, HALF, ((1, 0, 0), (0, 1, 1)))
        self.refused(("hangs", 1), Blocked, FULL, ((1, 0, 0), (1, 0, 0), (0, 0, 0)))
        self.refused(("hangs", 2), Blocked, FULL, ((1, 0, 0), (0, 1, 0), (1, 1, 0)))
        self.refused(("hangs", 3), Blocked, FULL, ((1, 0, 0), (0, 1, 0), (0, 0, 1)) + ((1, 1, 1),) * 5)
        three = Plan(3, ("a", "b"), (((1, 1), 2),))
        self.refused(("hangs", 0), Blocked, three, ((2, 2),))
        self.refused(("hangs", 1), Blocked, three, ((1, 0), (0, 1)))

    def test_wrong_words(self):
        self.all_rejected(InvalidPlan, lambda value: Blocked(value, None))
        self.all_rejected(InvalidWords, lambda value: Blocked(FULL, value))
        for words in ((), ((1, 0, 0),) * 9, ((1, 0),), ((1, 0, 2),), [(1, 0, 0)], ((1, 0, True),), ((0, 0, 0), (1,))):
            self.raises(InvalidWords, Blocked, FULL, words)

    def test_eight_words(self):
        ones = tuple(tuple(int(at == place) for at in range(8)) for place in range(8))
        self.refused(("hangs", 7), Blocked, full_but_one(), ones)
        seven = Blocked(full_but_one(), ones[:7])
        self.assertEqual((len(seven), len(set(seven.blocks)), len(seven.lost())), (128, 128, 254))
        self.assertEqual(len(Blocked(full(2, 3), ones_of(3))), 8)

    def test_constant_and_zero_words(self):
        blocked = Blocked(HALF, ((1, 0, 0),))
        for method in (blocked.is_lost, blocked.is_kept):
            self.assertFalse(method((1, 1, 1)))
            self.raises(InvalidWords, method, (0, 0, 0))
            self.all_rejected(InvalidWords, method)
        self.assertTrue(blocked.is_lost((0, 1, 1)))
        self.assertTrue(blocked.is_kept((0, 1, 0)))
        self.assertEqual(blocked.lost(), ((0, 1, 1), (1, 0, 0)))

    def test_4096_lost_classes(self):
        plan = Plan(7, tuple("abcdef"), tuple((word, 0) for word in ones_of(6)[:4]))
        self.assertEqual(len(Blocked(plan, (ones_of(6)[4],)).lost()), 2401)
        self.too_many(4096, Blocked(plan, ones_of(6)[4:]).lost)
        five = Plan(5, tuple("abcdef"), tuple((word, 0) for word in ones_of(6)[:5]))
        self.assertEqual(len(Blocked(five, (ones_of(6)[5],)).lost()), 3125)
        near = Plan(5, tuple("abcdef"), tuple((word, 0) for word in ones_of(6)[:4]))
        self.assertEqual(len(Blocked(near, (ones_of(6)[4],)).lost()), 625)
        self.assertEqual(len(Blocked(near, ones_of(6)[4:]).lost()), 3750)

    def test_table_with(self):
        blocked = Blocked(Plan(3, ("a", "b"), ()), ((1, 1), (1, 2)))
        table = blocked.table_with(("q", "p"))
        self.assertEqual(table.names, ("a", "b", "p", "q"))
        self.assertEqual(table.shown(("a", "b")), blocked.plan.as_table())
        sides = [tuple(side_of(3, word, run) for run in blocked.plan.runs) for word in blocked.words]
        self.assertEqual(table["q"], Factor(("l0", "l1", "l2"), sides[0]))
        self.assertEqual(table["p"], Factor(("l0", "l1", "l2"), sides[1]))
        self.all_rejected(InvalidPlan, blocked.table_with)
        for names in (("p",), ("p", "q", "r"), ("p", "p"), ("a", "p"), ["p", "q"], ("p", "in")):
            self.raises(InvalidPlan, blocked.table_with, names)

    def test_twelve_columns(self):
        plan = full_but_one()
        blocked = Blocked(plan, ones_of(8)[:4])
        self.assertEqual(len(blocked.table_with(tuple("wxyz")).names), 12)
        more = Blocked(plan, ones_of(8)[:5])
        self.too_many(12, more.table_with, tuple("vwxyz"))
        self.raises(InvalidPlan, more.table_with, tuple("awxyz"))

    def test_equal(self):
        four = full(2, 4)
        one = Blocked(four, ((1, 1, 0, 0), (0, 0, 1, 1)))
        for words in (((0, 0, 1, 1), (1, 1, 0, 0)), ((1, 1, 1, 1), (0, 0, 1, 1))):
            self.assertEqual(one, Blocked(four, words))
            self.assertNotEqual(one.blocks, Blocked(four, words).blocks)
        for words in (((1, 1, 0, 0),), ((1, 1, 0, 0), (0, 0, 0, 1)), ((1, 0, 0, 0), (0, 0, 1, 1), (0, 1, 0, 0))):
            self.assertNotEqual(one, Blocked(four, words))
        self.assertEqual(Blocked(HALF, ((1, 0, 0),)), Blocked(HALF, ((0, 1, 1),)))
        self.assertNotEqual(Blocked(HALF, ((1, 0, 0),)), Blocked(FULL, ((1, 0, 0),)))
        self.assertNotEqual(one, Blocked(full(2, 4, "wxyz"), one.words))
        for value in wrong_values():
            self.assertFalse(one == value)
            self.assertTrue(one != value)
        self.assertRaises(TypeError, iter, one)

    def test_equal_by_chance(self):
        rng = random.Random(1005)
        seen = set()
        for _ in range(300):
            plan, words, one = random_blocked(rng)
            try:
                other = Blocked(plan, tuple(random_word(rng, plan.p, len(plan.names)) for _ in words))
            except Refused:
                continue
            pairs = list(itertools.product(range(len(plan)), repeat=2))[:300]
            together = all((one.blocks[a] == one.blocks[b]) == (other.blocks[a] == other.blocks[b]) for a, b in pairs)
            if len(plan) <= 17:
                self.assertEqual(one == other, together)
                seen.add(together)
        self.assertEqual(seen, {True, False})


def ones_of(many):
    return tuple(tuple(int(at == place) for at in range(many)) for place in range(many))


class SquaresTest(Case):
    def test_squares(self):
        self.assertEqual(squares(2), (((0, 1), (1, 0)),))
        self.assertEqual(squares(3), (((0, 1, 2), (1, 2, 0), (2, 0, 1)), ((0, 1, 2), (2, 0, 1), (1, 2, 0))))
        for p in PRIMES:
            found = squares(p)
            self.assertEqual(len(found), p - 1)
            for one, other in itertools.combinations(found, 2):
                pairs = {(one[i][j], other[i][j]) for i in range(p) for j in range(p)}
                self.assertEqual(len(pairs), p * p)
            for square in found:
                for line in list(square) + list(zip(*square)):
                    self.assertEqual(sorted(line), list(range(p)))

    def test_plans(self):
        for p in PRIMES:
            plan = squares_plan(p)
            self.assertEqual(plan.names, tuple("abcdefgh"[:p + 1]))
            runs = {
                (i, j) + tuple(square[i][j] for square in squares(p)) for i in range(p) for j in range(p)
            }
            self.assertEqual((set(plan.runs), len(plan), plan.strength()), (runs, p * p, 2))

    def test_wrong_values(self):
        for value in wrong_values() + [4, 9, 11]:
            if value not in (2, 3, 5, 7) or isinstance(value, bool):
                self.raises(InvalidNumber, squares, value)
                self.number(value, squares_plan, value)
