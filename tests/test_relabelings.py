"""Stage 11: relabelings."""

import itertools
import random
from collections import Counter
from fractions import Fraction
from math import comb, factorial

from tests.support import Case, fraction, long_ratio, r, row, wrong_values
from worthstead.errors import InvalidLabels, InvalidOperation, InvalidRatio
from worthstead.exact.ratios import Ratio
from worthstead.trials.relabelings import Relabelings

TRIAL = Relabelings(("a", "b", "a", "b"), (0, 0, 1, 1))
VALUES = row("1 2 3 5")


def patterns(labels, blocks):
    """For each block its number of rows and its pattern."""
    found = {}
    for label, block in zip(labels, blocks):
        found.setdefault(block, Counter())[label] += 1
    return {block: (sum(pattern.values()), sorted(pattern.items())) for block, pattern in found.items()}


def slow_relabelings(labels, blocks, among):
    """All relabelings: of all labellings with the same labels those with right patterns."""
    told = patterns(labels, blocks)
    kinds = sorted(set(labels))
    found = []
    for value in itertools.product(kinds, repeat=len(labels)):
        own = patterns(value, blocks)
        if own == told if not among else sorted(own.values()) == sorted(told.values()):
            found.append(value)
    return found


def sum_of(values, labels, label):
    return sum((fraction(one) for one, other in zip(values, labels) if other == label), Fraction(0))


def random_trial(rng, most=7):
    many = rng.randint(1, most)
    labels = tuple(rng.choice("abcd"[:rng.randint(1, 4)]) for _ in range(many))
    blocks = tuple(rng.randrange(rng.randint(1, 4)) for _ in range(many))
    values = tuple(Ratio(rng.randint(-3, 3), rng.choice([1, 1, 2, 3])) for _ in range(many))
    return labels, blocks, values


class RelabelingsTest(Case):
    def test_by_chance(self):
        rng = random.Random(1101)
        for at in range(150):
            labels, blocks, values = random_trial(rng, 7 if at % 10 else 8)
            among = rng.random() < 0.6
            made = Relabelings(labels, blocks, among=among)
            every = slow_relabelings(labels, blocks, among)
            self.assertEqual(made.total, len(every))
            self.assertTrue(made.is_relabeling(labels))
            for value in rng.sample(every, min(10, len(every))):
                self.assertTrue(made.is_relabeling(value))
            for _ in range(20):
                value = tuple(rng.choice("abcd") for _ in labels)
                self.assertEqual(made.is_relabeling(value), value in every)
            label = rng.choice(labels)
            self.compare(made, every, values, label)
            others = sorted(set(labels) - {label})
            if others:
                other = rng.choice(others)
                triples = Counter((sum_of(values, one, label), sum_of(values, one, other)) for one in every)
                self.assertEqual(
                    [(fraction(one), fraction(two), many) for one, two, many in made.pairs(values, label, other)],
                    [(one, two, triples[one, two]) for one, two in sorted(triples)],
                )

    def compare(self, made, every, values, label):
        sums = Counter(sum_of(values, one, label) for one in every)
        self.assertEqual(
            [(fraction(one), many) for one, many in made.counts(values, label)], [(one, sums[one]) for one in sorted(sums)]
        )
        told = sum_of(values, made.labels, label)
        mean = sum((one * many for one, many in sums.items()), Fraction(0)) / made.total
        spread = sum(((one - mean) ** 2 * many for one, many in sums.items()), Fraction(0)) / made.total
        self.assertEqual([fraction(one) for one in made.moments(values, label)], [mean, spread])
        shares = {
            "high": sum(many for one, many in sums.items() if one >= told),
            "low": sum(many for one, many in sums.items() if one <= told),
            "far": sum(many for one, many in sums.items() if abs(one - mean) >= abs(told - mean)),
        }
        for way, many in shares.items():
            self.assertEqual(fraction(made.told_share(values, label, way)), Fraction(many, made.total))
        self.assertEqual(fraction(made.floor(values, label)), Fraction(sums[max(sums)], made.total))

    def test_properties(self):
        self.assertEqual((TRIAL.labels, TRIAL.blocks, TRIAL.is_among, TRIAL.total), (("a", "b", "a", "b"), (0, 0, 1, 1), False, 4))
        self.assertEqual((len(TRIAL), str(TRIAL)), (4, "4 relabelings of 4 rows in 2 blocks"))
        among = Relabelings(TRIAL.labels, TRIAL.blocks, among=True)
        self.assertTrue(among.is_among)
        self.assertEqual(str(among), "4 relabelings of 4 rows in 2 blocks")
        self.assertEqual(str(Relabelings(("a",), (7,))), "1 relabelings of 1 rows in 1 blocks")
        self.assertRaises(TypeError, iter, TRIAL)

    def test_one_row(self):
        one = Relabelings(("x",), (3,), among=True)
        self.assertEqual((one.total, one.counts(row("5/2"), "x")), (1, ((r("5/2"), 1),)))
        self.assertEqual(one.moments(row("5/2"), "x"), (r("5/2"), r(0)))
        self.assertEqual((one.floor(row("2"), "x"), one.told_share(row("2"), "x", "far")), (r(1), r(1)))

    def test_totals_of_any_length(self):
        labels = tuple("abcd"[at % 4] for at in range(40))
        whole = Relabelings(labels, (0,) * 40)
        self.assertEqual(whole.total, factorial(40) // factorial(10) ** 4)
        parts = tuple(at // 5 for at in range(40))
        kept = Relabelings(labels, parts)
        self.assertEqual(kept.total, (factorial(5) // 2) ** 8)
        among = Relabelings(labels, parts, among=True)
        # Two blocks have each of the four patterns.
        self.assertEqual(among.total, kept.total * factorial(8) // 2 ** 4)
        two = Relabelings(("a",) * 20 + ("b",) * 20, (0,) * 40)
        zeros = (r(0),) * 40
        self.assertEqual(two.counts(zeros, "a"), ((r(0), comb(40, 20)),))
        self.assertEqual(two.counts((r(1),) * 40, "a"), ((r(20), comb(40, 20)),))

    def test_forty_rows(self):
        two = Relabelings(("a",) * 20 + ("b",) * 20, (0,) * 40)
        values = tuple(r(int(at % 2)) for at in range(40))
        self.assertEqual(two.counts(values, "a"), tuple((r(k), comb(20, k) ** 2) for k in range(21)))
        self.assertEqual(two.moments(values, "a"), (r(10), Ratio(400, 156)))

    def test_blocks_with_unlike_numbers_of_rows(self):
        labels, blocks = ("a", "b", "a", "a", "b"), (0, 0, 1, 2, 2)
        among = Relabelings(labels, blocks, among=True)
        self.assertEqual(among.total, 4)
        other = Relabelings(("a", "b", "a", "a", "a"), blocks, among=True)
        self.assertEqual(other.total, 4)
        self.assertTrue(other.is_relabeling(("a", "a", "a", "b", "a")))
        self.assertFalse(other.is_relabeling(("a", "a", "b", "a", "a")))
        self.assertFalse(Relabelings(("a", "b", "a", "a", "a"), blocks).is_relabeling(("a", "a", "a", "b", "a")))
        self.assertEqual(Relabelings(("a", "b", "a", "a", "a"), blocks).total, 2)

    def test_what_is_no_relabeling(self):
        for value in wrong_values():
            self.assertFalse(TRIAL.is_relabeling(value))
        for value in (
            ("a", "b", "a"), ("a", "b", "a", "b", "a"), ["a", "b", "a", "b"], ("a", "b", "a", "c"), ("a", "a", "b", "b"),
            ("a", "b", "a", None), ("a", "b", "a", ("b",)), ("a", "b", "a", ["b"]), ("a", "b", "a", "a"), ("b", "a", "b", 0),
        ):
            self.assertFalse(TRIAL.is_relabeling(value))
        self.assertTrue(TRIAL.is_relabeling(("b", "a", "b", "a")))

    def test_equal(self):
        self.assertEqual(TRIAL, Relabelings(("a", "b", "a", "b"), (0, 0, 1, 1), among=False))
        for other in (
            Relabelings(("a", "b", "a", "b"), (0, 0, 1, 1), among=True), Relabelings(("a", "b", "b", "a"), (0, 0, 1, 1)),
            Relabelings(("a", "b", "a", "b"), (0, 0, 2, 2)), Relabelings(("a", "b", "a"), (0, 0, 1)),
        ):
            self.assertNotEqual(TRIAL, other)
        for value in wrong_values():
            self.assertFalse(TRIAL == value)
            self.assertTrue(TRIAL != value)

    def test_wrong_labellings(self):
        right = (("a",), ("a", "a"))
        self.all_rejected(InvalidLabels, lambda value: Relabelings(value, None), ())
        for labels in (("a", "in"), ("a", "A"), ("a", 1), ("a", None), ["a"], (), ("a",) * 41, ("a", "b", "c", "d", "e")):
            self.raises(InvalidLabels, Relabelings, labels, (0,) * len(labels))
        for labels in right + (("a", "b", "c", "d") * 10,):
            self.assertEqual(len(Relabelings(labels, (0,) * len(labels))), len(labels))
        for blocks in ((0,), (0, 0, 0), (0, 8), (0, -1), (0, True), (0, None), [0, 0], (0, "0"), (0, 10 ** 61), None):
            self.raises(InvalidLabels, Relabelings, ("a", "b"), blocks)
        self.all_rejected(InvalidLabels, lambda value: Relabelings(("a", "b"), value))
        self.assertEqual(Relabelings(("a",) * 8, tuple(range(8))).total, 1)

    def test_wrong_among(self):
        for value in wrong_values():
            if not isinstance(value, bool):
                self.raises(InvalidOperation, Relabelings, ("a",), (0,), among=value)
        self.raises(InvalidLabels, Relabelings, (), (0,), among=1)
        self.raises(InvalidLabels, Relabelings, ("a",), (9,), among=1)

    def each_call(self, values, label):
        yield TRIAL.counts, (values, label)
        yield TRIAL.told_share, (values, label, "high")
        yield TRIAL.floor, (values, label)
        yield TRIAL.moments, (values, label)
        yield TRIAL.pairs, (values, label, "b")

    def test_wrong_values(self):
        for call, _ in self.each_call(None, None):
            rest = ("high",) if call == TRIAL.told_share else ("b",) if call == TRIAL.pairs else ()
            for value in wrong_values():
                self.raises(InvalidRatio, call, value, "z", *rest)
            for value in (row("1 2 3"), row("1 2 3 4 5"), list(VALUES), (r(1), r(2), r(3), 4), (None, r(2), r(3), 4)):
                self.raises(InvalidRatio, call, value, "z", *rest)
            self.raises(InvalidRatio, call, (None,) * 3, "z", *rest)
            # What lacks comes ahead of labels that no row has.
            self.refused(("lacking", 0), call, (None,) * 4, "z", *rest)
            self.refused(("lacking", 2), call, (r(1), r(2), None, None), "z", *rest)

    def test_wrong_labels(self):
        for value in wrong_values():
            if value != "a" or not isinstance(value, str):
                for call, args in self.each_call(VALUES, value):
                    self.unknown(value, call, *args)
                self.unknown(value, TRIAL.pairs, VALUES, "a", value)
        self.unknown("c", TRIAL.counts, VALUES, "c")
        self.unknown("c", TRIAL.pairs, VALUES, "c", "d")
        self.unknown("d", TRIAL.pairs, VALUES, "a", "d")
        self.unknown("c", TRIAL.told_share, VALUES, "c", "no")
        self.raises(InvalidOperation, TRIAL.pairs, VALUES, "a", "a")
        for way in wrong_values() + ["High", "far ", "near", ("far",)]:
            self.raises(InvalidOperation, TRIAL.told_share, VALUES, "a", way)

    def test_ways(self):
        trial = Relabelings(("a", "b"), (0, 0))
        values = row("1 2")
        self.assertEqual([trial.told_share(values, "a", way) for way in ("high", "low", "far")], [r(1), r("1/2"), r(1)])
        self.assertEqual([trial.told_share(values, "b", way) for way in ("high", "low", "far")], [r("1/2"), r(1), r(1)])

    def test_none_of_the_false_statements(self):
        labels, values = ("a", "b", "c", "c"), row("1 2 3 4")
        trial = Relabelings(labels, (0,) * 4)
        self.assertNotEqual(trial.told_share(values, "a", "high"), trial.told_share(values, "b", "high"))
        self.assertEqual((trial.total, trial.floor(values, "a")), (12, r("1/4")))
        shares = [trial.told_share(values, "b", way) for way in ("high", "low", "far")]
        self.assertNotEqual(shares[2], shares[0] + shares[1])


class CountsTest(Case):
    """Just 5000 different pairs, and more."""

    def test_one_label(self):
        # Of thirteen rows with one power of two each, in one block, there are as many pairs as choices of so many rows.
        def trial(many, chosen):
            return Relabelings(("a",) * chosen + ("b",) * (many - chosen), (0,) * many)

        def most(many, chosen):
            """The greatest number of pairs behind any row, if all sums differ."""
            counts = []
            for j in range(1, many + 1):
                low = max(0, chosen - (many - j))
                counts.append(sum(comb(j, k) for k in range(low, min(j, chosen) + 1)))
            return max(counts)

        for many, chosen in ((14, 7), (15, 5), (16, 5), (17, 4), (20, 3), (21, 3), (32, 2), (15, 7)):
            values = tuple(Ratio(2 ** at) for at in range(many))
            if most(many, chosen) > 5000:
                self.too_many(5000, trial(many, chosen).counts, values, "a")
                self.too_many(5000, trial(many, chosen).floor, values, "a")
                self.too_many(5000, trial(many, chosen).told_share, values, "a", "far")
                self.raises(InvalidOperation, trial(many, chosen).told_share, values, "a", "up")
            else:
                self.assertEqual(len(trial(many, chosen).counts(values, "a")), comb(many, chosen))
            # The moments need no counts.
            self.assertEqual(trial(many, chosen).moments(values, "a")[0], Ratio(chosen * (2 ** many - 1), many))

    def pairs_behind(self, labels, blocks, values, chosen, among):
        """The greatest number of different tuples behind any row, from the rows of each block one after the other."""
        order = sorted(range(len(labels)), key=lambda at: (blocks[at], at))
        most = 0
        every = slow_relabelings(labels, blocks, among)
        for j in range(1, len(labels) + 1):
            found = set()
            for one in every:
                ahead = [at for at in order[:j]]
                found.add(tuple(
                    (sum(one[at] == label for at in ahead), sum(values[at] for at in ahead if one[at] == label))
                    for label in chosen
                ))
            most = max(most, len(found))
        return most

    def test_the_limit_by_chance(self):
        # The same walk with a lower limit, which it is told.
        from worthstead.trials.counting import choices_by_sums
        from worthstead.trials.patterns import block_rows, groups_of, pattern_of

        rng = random.Random(1102)
        hit = 0
        for _ in range(80):
            labels, blocks, _ = random_trial(rng)
            values = [rng.randint(0, 4) for _ in labels]
            among = rng.random() < 0.6
            chosen = tuple(rng.sample(sorted(set(labels)), min(len(set(labels)), rng.randint(1, 2))))
            several = block_rows(blocks)
            parts = [pattern_of(labels, rows, chosen) for rows in several]
            most = self.pairs_behind(labels, blocks, values, chosen, among)
            told = (several, groups_of(several, among), parts, values)
            choices_by_sums(*told, most)
            if most > 1:
                hit += 1
                self.too_many(most - 1, choices_by_sums, *told, most - 1)
        self.assertGreater(hit, 40)

    def trial_of(self, *several):
        """A trial with one row of a label in each block, and the values of the rows of the blocks."""
        labels = tuple(label for label, values in several for label in [label] + ["z"] * (len(values) - 1))
        blocks = tuple(at for at, (_, values) in enumerate(several) for _ in values)
        return Relabelings(labels, blocks), tuple(Ratio(value) for _, values in several for value in values)

    def test_just_5000(self):
        # The sums of the first five blocks are the numbers from 0 to 1999. Behind the second row of the sixth one its
        # label is still to come, or the sums are those of the first five with 0 or with one more number.
        ahead = [("a", range(0, 5 * by, by)) for by in (1, 5, 25)] + [("a", range(0, 4 * by, by)) for by in (125, 500)]
        trial, values = self.trial_of(*ahead, ("a", (0, 1000, 0)))
        self.assertEqual(len(trial.counts(values, "a")), 3000)
        trial, values = self.trial_of(*ahead, ("a", (0, 1001, 0)))
        self.too_many(5000, trial.counts, values, "a")
        # In another order of the rows there are fewer.
        trial, values = self.trial_of(*ahead, ("a", (0, 0, 1001)))
        self.assertEqual(len(trial.counts(values, "a")), 3001)

    def test_unlike_ways_to_the_same_pairs(self):
        # Behind two blocks the label can have two rows by unlike patterns, which do not count twice.
        from worthstead.trials.counting import choices_by_sums
        from worthstead.trials.patterns import block_rows, groups_of, pattern_of

        labels, blocks = tuple("bbababaa"), tuple(at // 2 for at in range(8))
        several = block_rows(blocks)
        told = (several, groups_of(several, True), [pattern_of(labels, rows, ("a",)) for rows in several])
        for values, most in (((0,) * 8, 3), ((0, 0, 0, 1, 0, 0, 2, 1), None)):
            most = self.pairs_behind(labels, blocks, values, ("a",), True)
            self.assertEqual(sum(choices_by_sums(*told, list(values), most).values()), 4 * 12)
            self.too_many(most - 1, choices_by_sums, *told, list(values), most - 1)
        rng = random.Random(1105)
        for size in (2, 3, 4) * 8:
            labels = tuple(rng.choice("ab") for _ in range(12 if size == 4 else 9 if size == 3 else 8))
            blocks = tuple(at // size for at in range(len(labels)))
            values = [rng.randint(0, 1) for _ in labels]
            several = block_rows(blocks)
            told = (several, groups_of(several, True), [pattern_of(labels, rows, ("a",)) for rows in several], values)
            most = self.pairs_behind(labels, blocks, values, ("a",), True)
            choices_by_sums(*told, most)
            if most > 1:
                self.too_many(most - 1, choices_by_sums, *told, most - 1)

    def test_just_5000_for_two_labels(self):
        ahead = [("a", range(0, 5 * by, by)) for by in (1, 5, 25, 125)] + [("a", (0, 625))]
        trial, values = self.trial_of(*ahead, ("b", (1, 2, 3, 4)))
        self.assertEqual(len(trial.pairs(values, "a", "b")), 5000)
        self.assertEqual(len(trial.counts(values, "a")), 1250)
        # The sums of the first six blocks are the numbers from 0 to 1666.
        ahead = [("a", range(0, 5 * by, by)) for by in (1, 5, 25)] + [("a", range(0, 500, 125)), ("a", (0, 500)), ("a", (0, 667))]
        trial, values = self.trial_of(*ahead, ("b", (1, 2, 3)))
        self.too_many(5000, trial.pairs, values, "a", "b")
        trial, values = self.trial_of(*ahead, ("b", (1, 2)))
        self.assertEqual(len(trial.pairs(values, "a", "b")), 3334)

    def test_two_labels(self):
        labels = ("a", "b", "c", "c", "c") * 8
        blocks = tuple(at // 5 for at in range(40))
        small = tuple(Ratio(at % 2) for at in range(40))
        self.assertGreater(len(Relabelings(labels, blocks).pairs(small, "a", "b")), 20)
        big = tuple(Ratio(3 ** (at // 5) * (at % 5)) for at in range(40))
        self.too_many(5000, Relabelings(labels, blocks).pairs, big, "a", "b")
        self.raises(InvalidOperation, Relabelings(labels, blocks).pairs, big, "a", "a")

    def test_two_labels_need_more(self):
        labels = ("a", "b") * 5 + ("c", "c")
        values = tuple(Ratio(2 ** at) for at in range(12))
        trial = Relabelings(labels, (0,) * 12)
        self.assertEqual(len(trial.counts(values, "a")), comb(12, 5))
        self.too_many(5000, trial.pairs, values, "a", "b")

    def test_among_many_blocks(self):
        rng = random.Random(1103)
        labels = tuple(rng.choice("abcd") for _ in range(40))
        blocks = tuple(at // 5 for at in range(40))
        trial = Relabelings(labels, blocks, among=True)
        values = tuple(Ratio(rng.randint(0, 3)) for _ in range(40))
        found = trial.counts(values, "a")
        self.assertEqual(sum(many for _, many in found), trial.total)
        mean = sum((fraction(one) * many for one, many in found), Fraction(0)) / trial.total
        self.assertEqual(fraction(trial.moments(values, "a")[0]), mean)
        spread = sum(((fraction(one) - mean) ** 2 * many for one, many in found), Fraction(0)) / trial.total
        self.assertEqual(fraction(trial.moments(values, "a")[1]), spread)

    def test_exchanged_labels(self):
        rng = random.Random(1104)
        for _ in range(20):
            labels, blocks, values = random_trial(rng)
            kinds = sorted(set(labels))
            if len(kinds) > 1:
                trial = Relabelings(labels, blocks, among=True)
                one = trial.pairs(values, kinds[0], kinds[1])
                other = trial.pairs(values, kinds[1], kinds[0])
                self.assertEqual(
                    sorted((fraction(b), fraction(a), many) for a, b, many in one),
                    [(fraction(a), fraction(b), many) for a, b, many in other],
                )
                sums = Counter()
                for a, _, many in one:
                    sums[fraction(a)] += many
                self.assertEqual(
                    [(one, sums[one]) for one in sorted(sums)],
                    [(fraction(a), many) for a, many in trial.counts(values, kinds[0])],
                )


class LongResultsTest(Case):
    def test_long_sums(self):
        trial = Relabelings(("a", "a", "b"), (0, 0, 0))
        short = (long_ratio(900), long_ratio(1, 901), r(1))
        self.assertEqual(len(trial.counts(short, "a")), 3)
        long = (long_ratio(1, 1999), Ratio.of_text("1/1" + "0" * 1500), r(1))
        self.too_many(2000, trial.counts, long, "a")
        self.too_many(2000, trial.moments, long, "a")
        self.too_many(2000, trial.pairs, long, "a", "b")
        # Shares hang on no length.
        self.assertEqual(trial.told_share(long, "a", "high"), r(1))
        self.assertEqual(trial.told_share(long, "b", "high"), r("1/3"))
        self.assertEqual(trial.floor(long, "a"), r("1/3"))

    def test_long_spreads(self):
        trial = Relabelings(("a", "b"), (0, 0))
        values = (long_ratio(1, 1201), r(0))
        self.assertEqual(len(trial.counts(values, "a")), 2)
        self.too_many(2000, trial.moments, values, "a")
        same = (long_ratio(1, 1201), long_ratio(1, 1201))
        self.assertEqual(trial.moments(same, "a"), (same[0], r(0)))
