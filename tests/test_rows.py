"""[2.1] to [2.3]: rows, their base, and what is a sum of them."""

import random

from tests import linear
from tests.support import Case, fraction, long_ratio, r, row, rows, texts, wrong_values
from worthstead.errors import InvalidOperation, InvalidRows
from worthstead.exact.ratios import Ratio
from worthstead.exact.rows import base_of, is_rows, is_summed, multiplied, rank_of, summed, sums_of, turned

ONE, ZERO = Ratio(1), Ratio(0)
TWENTY = 10 ** 20 - 1
FUNCTIONS = (
    rank_of, base_of, sums_of, turned, lambda rows: summed(rows, ()), lambda rows: is_summed(rows, (), None),
    lambda rows: multiplied(rows, ()), lambda rows: multiplied((), rows),
)
RIGHT = [(), ((),)]


def ones(many, width):
    return ((ONE,) * width,) * many


class BoundsTest(Case):
    def test_is_rows(self):
        for value in ((), ((),), ((), ()), ones(512, 1), ones(1, 512), ones(65, 65), ones(512, 0), ((Ratio(1, 3),),)):
            self.assertIs(is_rows(value), True)
        for value in (ones(513, 1), ones(513, 0), ones(1, 513), (row("1 2"), row("1")), (row("1"), ()), ((ONE, 1),)):
            self.assertIs(is_rows(value), False)
        for value in wrong_values():
            self.assertIs(is_rows(value), value in ((), ((),)) and type(value) is tuple or value == ((ONE,),))
        self.assertIs(is_rows(((long_ratio(2000),),)), True)
        self.assertIs(is_rows([row("1")]), False)
        self.assertIs(is_rows((list(row("1")),)), False)

    def test_what_is_no_rows(self):
        for function in FUNCTIONS:
            self.all_rejected(InvalidRows, function, RIGHT)
            self.raises(InvalidRows, function, (row("1 2"), row("1")))
            self.raises(InvalidRows, function, ones(513, 0))

    def test_most_rows_and_widths(self):
        self.assertEqual(rank_of(ones(512, 64)), 1)
        self.assertEqual(rank_of(ones(64, 512)), 1)
        self.assertEqual(base_of(ones(512, 64)), (0,))
        self.assertEqual(len(sums_of(ones(512, 64))), 511)
        self.assertEqual(turned(ones(64, 512)), ones(512, 64))
        self.raises(InvalidRows, rank_of, ones(513, 64))
        self.raises(InvalidRows, rank_of, ones(64, 513))

    def test_more_than_sixty_four_of_both(self):
        for function in (rank_of, base_of, sums_of, turned):
            self.too_many(64, function, ones(65, 65))
        self.too_many(64, multiplied, ones(65, 65), ones(65, 1))
        self.too_many(64, multiplied, ones(1, 65), ones(65, 65))
        self.assertEqual(rank_of(ones(65, 64)), 1)
        self.assertEqual(rank_of(ones(64, 65)), 1)

    def test_what_is_wanted_counts(self):
        self.assertEqual(summed(ones(63, 65), (ONE,) * 65)[0], "sum")
        self.too_many(64, summed, ones(64, 65), (ONE,) * 65)
        self.too_many(64, is_summed, ones(64, 65), (ONE,) * 65, None)
        self.assertEqual(summed(ones(512, 64), (ONE,) * 64)[0], "sum")
        long = (Ratio(TWENTY + 1),)
        self.too_many(20, summed, ones(1, 1), long)
        self.too_many(20, is_summed, ones(1, 1), long, None)
        self.too_many(20, summed, (), long)
        self.assertEqual(summed(ones(1, 1), (Ratio(TWENTY),)), ("sum", (Ratio(TWENTY),)))

    def test_twenty_digits(self):
        for entry in (Ratio(TWENTY), Ratio(-TWENTY), Ratio(1, TWENTY), Ratio(TWENTY, TWENTY - 1)):
            self.assertEqual(rank_of(((entry,),)), 1)
        for entry in (Ratio(TWENTY + 1), Ratio(-TWENTY - 1), Ratio(1, TWENTY + 1), long_ratio(3, 21)):
            for function in (rank_of, base_of, sums_of, turned):
                self.too_many(20, function, ((ONE, entry),))
            self.too_many(20, multiplied, ((entry,),), ((ONE,),))
            self.too_many(20, multiplied, ((ONE,),), ((entry,),))

    def test_which_error_comes_first(self):
        long = ((Ratio(TWENTY + 1),) * 65,) * 65
        self.too_many(64, rank_of, long)
        self.raises(InvalidRows, summed, long, (ONE,))
        self.raises(InvalidRows, summed, None, 3)
        self.raises(InvalidRows, multiplied, long, None)
        self.too_many(64, multiplied, ((Ratio(TWENTY + 1),),), ones(65, 65))
        self.too_many(20, multiplied, ones(1, 2), ((Ratio(TWENTY + 1),),))
        self.too_many(64, multiplied, ones(65, 65), ones(2, 2))

    def test_what_is_wanted(self):
        for value in wrong_values():
            if value != (ONE,):
                self.raises(InvalidRows, summed, ones(2, 1), value)
                self.raises(InvalidRows, is_summed, ones(2, 1), value, None)
            if value != (ONE,) and value != ():
                self.raises(InvalidRows, summed, (), value)
        self.raises(InvalidRows, summed, ones(2, 2), row("1"))
        self.raises(InvalidRows, summed, (), (ONE,) * 513)
        self.assertEqual(summed((), (ZERO,) * 512), ("sum", ()))
        self.assertEqual(summed((), ()), ("sum", ()))
        word, apart = summed((), (ZERO,) * 511 + (Ratio(2, 3),))
        self.assertEqual((word, apart[511]), ("apart", Ratio(3, 2)))


class BaseTest(Case):
    def test_small_ones(self):
        self.assertEqual((rank_of(()), base_of(()), sums_of(())), (0, (), {}))
        self.assertEqual((rank_of(((), ())), base_of(((), ())), sums_of(((), ()))), (0, (), {0: (), 1: ()}))
        some = rows("0 0", "1 2", "1 2", "2 4", "0 1", "1 0", "0 0")
        self.assertEqual((rank_of(some), base_of(some)), (2, (1, 4)))
        self.assertEqual(
            {at: texts(weights) for at, weights in sums_of(some).items()},
            {0: ["0", "0"], 2: ["1", "0"], 3: ["2", "0"], 5: ["1", "-2"], 6: ["0", "0"]},
        )
        self.assertEqual(list(sums_of(some)), [0, 2, 3, 5, 6])

    def test_weights_of_base_rows_behind_are_zero(self):
        some = rows("1/2 0 0", "3 0 0", "0 2/3 0", "1 1 0", "0 0 5", "1 1 1")
        self.assertEqual(
            {at: texts(weights) for at, weights in sums_of(some).items()},
            {1: ["6", "0", "0"], 3: ["2", "3/2", "0"], 5: ["2", "3/2", "1/5"]},
        )

    def test_against_elimination(self):
        rng = random.Random(4)
        for _ in range(150):
            is_whole = rng.random() < 0.5
            size = rng.choice((1, 2, 9, 10 ** 15) if is_whole else (2, 9, 30))
            many, width = rng.randint(0, 7), rng.randint(0, 6)
            some = linear.random_rows(rng, many, width, rng.randint(0, 4), size, is_whole)
            ratios = linear.as_ratios(some)
            base = linear.base(some, width)
            self.assertEqual((base_of(ratios), rank_of(ratios)), (base, len(base)))
            sums = sums_of(ratios)
            self.assertEqual(list(sums), [at for at in range(many) if at not in base])
            for at, weights in sums.items():
                self.assertEqual(len(weights), len(base))
                made = [sum([fraction(w) * some[b][k] for w, b in zip(weights, base)]) for k in range(width)]
                self.assertEqual(made, some[at])
                self.assertFalse(any(w for w, b in zip(weights, base) if b > at))

    def test_rows_that_are_sums_modulo_a_prime_alone(self):
        for power in (127, 521):
            # The determinant is 2 ** power - 1: the first row has its digits, and the others lead from one to the next.
            digits, left = [], 2 ** power - 1
            while left:
                left, digit = divmod(left, 10 ** 19)
                digits.append(digit)
            size = len(digits)
            some = [[-(10 ** 19) if k == at - 1 else int(k == at) for k in range(size)] for at in range(1, size)]
            ratios = tuple(tuple(Ratio(entry) for entry in one) for one in some + [digits])
            self.assertEqual(base_of(ratios), tuple(range(size)))
            self.assertEqual(sums_of(ratios + (ratios[1],)), {size: tuple(Ratio(int(k == 1)) for k in range(size))})
            more = tuple(one + two for one, two in zip(ratios[0], ratios[-1]))
            self.assertEqual(texts(summed(ratios, more)[1]), ["1"] + ["0"] * (size - 2) + ["1"])

    def test_longer_minors_than_primes(self):
        rng = random.Random(5)
        lead = [[rng.randint(-10 ** 18, 10 ** 18) for _ in range(40)] for _ in range(30)]
        mixed = [[rng.randint(-1, 1) for _ in range(30)] for _ in range(10)]
        sums = [[sum([w * one[k] for w, one in zip(weights, lead)]) for k in range(40)] for weights in mixed]
        some = tuple(tuple(Ratio(entry) for entry in one) for one in lead + sums)
        self.assertEqual(base_of(some), tuple(range(30)))
        found = sums_of(some)
        self.assertEqual([texts(found[30 + at]) for at in range(10)], [[str(w) for w in one] for one in mixed])
        self.assertEqual(base_of(some[30:] + some[:30])[:10], tuple(range(10)))

    def test_weights_that_are_too_long(self):
        rng = random.Random(6)
        some = tuple(tuple(Ratio(rng.randint(1, TWENTY), rng.randint(1, TWENTY)) for _ in range(12)) for _ in range(13))
        self.assertEqual(rank_of(some), 12)
        self.too_many(2000, sums_of, some)
        self.too_many(2000, summed, some[:12], some[12])
        self.too_many(2000, summed, some[:11], some[12])
        self.assertEqual(len(sums_of(tuple(one[:4] for one in some))), 9)


class SummedTest(Case):
    SOME = rows("1 0 2", "2 0 4", "0 1 1", "1 2 4")

    def test_sums(self):
        self.assertEqual(summed(self.SOME, row("0 0 0")), ("sum", row("0 0 0 0")))
        self.assertEqual(summed(self.SOME, row("3 1 7")), ("sum", row("3 0 1 0")))
        self.assertEqual(summed(self.SOME, row("1/2 1/3 4/3")), ("sum", row("1/2 0 1/3 0")))
        self.assertEqual(summed(rows("0 0"), row("0 0")), ("sum", row("0")))
        self.assertEqual(summed(((), ()), ()), ("sum", row("0 0")))

    def test_is_summed_with_sums(self):
        wanted = row("3 1 7")
        for value in ("3 0 1 0", "1 1 1 0", "0 3/2 1 0", "2 0 -1 1", "0 1 -1 1"):
            self.assertIs(is_summed(self.SOME, wanted, ("sum", row(value))), True)
        for value in ("3 0 1", "3 0 1 0 0", "3 0 1 1", "0 0 0 0", "3 0 2 0", ""):
            self.assertIs(is_summed(self.SOME, wanted, ("sum", row(value))), False)
        for value in (("apart", row("3 0 1 0")), ("apart", row("-2 -1 1")), ("sum", [*row("3 0 1 0")]), ["sum", row("3 0 1 0")]):
            self.assertIs(is_summed(self.SOME, wanted, value), False)
        self.assertIs(is_summed(self.SOME, wanted, ("sum", (Ratio(3), 0, ONE, ZERO))), False)
        self.assertIs(is_summed(self.SOME, wanted, ("sum", row("3 0 1 0"), 1)), False)
        self.assertIs(is_summed(self.SOME, wanted, ("sums", row("3 0 1 0"))), False)

    def test_is_summed_with_rows_apart(self):
        wanted = row("0 0 1")
        self.assertIs(is_summed(self.SOME, wanted, ("apart", row("-2 -1 1"))), True)
        for value in ("-4 -2 2", "-2 -1 2", "-2 -1", "0 0 1", "0 0 0", "-2 -1 1 0"):
            self.assertIs(is_summed(self.SOME, wanted, ("apart", row(value))), False)
        for value in ("5 -1 1", "0 -1 1", "2/3 -1 1"):
            self.assertIs(is_summed(rows("0 1 1"), wanted, ("apart", row(value))), True)
        for value in ("5 -1 2", "5 0 1", "5 -1 1 0"):
            self.assertIs(is_summed(rows("0 1 1"), wanted, ("apart", row(value))), False)
        self.assertIs(is_summed((), row("2 0"), ("apart", row("1/2 77"))), True)

    def test_is_summed_with_long_numbers(self):
        many = r("9" * 2000)
        self.assertIs(is_summed(rows("0 1"), row("2 5"), ("apart", (Ratio(1, 2), ZERO))), True)
        self.assertIs(is_summed(rows("1", "1"), row("2"), ("sum", (many, Ratio(2) - many))), True)
        self.assertIs(is_summed(rows("1", "1"), row("2"), ("sum", (many, Ratio(1) - many))), False)
        self.assertIs(is_summed(rows("0 0 1"), row("2 0 5"), ("apart", (Ratio(1, 2), many, ZERO))), True)

    def test_is_summed_takes_every_value(self):
        for value in wrong_values():
            for word in ("sum", "apart", value):
                self.assertIs(is_summed(self.SOME, row("3 1 7"), value), False)
                self.assertIs(is_summed(self.SOME, row("3 1 7"), (word, value)), False)

    def test_against_elimination(self):
        rng = random.Random(7)
        words = []
        for _ in range(150):
            is_whole = rng.random() < 0.5
            size = rng.choice((1, 9, 10 ** 15) if is_whole else (2, 30))
            many, width = rng.randint(0, 6), rng.randint(0, 6)
            some = linear.random_rows(rng, many + 1, width, rng.randint(0, 4), size, is_whole)
            ratios = linear.as_ratios(some)
            word, shown = summed(ratios[:-1], ratios[-1])
            is_sum = linear.rank(some, width) == linear.rank(some[:-1], width)
            self.assertEqual(word, "sum" if is_sum else "apart")
            self.assertIs(is_summed(ratios[:-1], ratios[-1], (word, shown)), True)
            other = "apart" if is_sum else "sum"
            self.assertIs(is_summed(ratios[:-1], ratios[-1], (other, shown)), False)
            if is_sum:
                base = linear.base(some[:-1], width)
                self.assertFalse(any(w for at, w in enumerate(shown) if at not in base))
            if shown and any(shown) and not (is_sum and many != len(linear.base(some[:-1], width))):
                near = tuple(w + w for w in shown)
                self.assertIs(is_summed(ratios[:-1], ratios[-1], (word, near)), False)
            words.append(word)
        self.assertGreater(words.count("sum"), 20)
        self.assertGreater(words.count("apart"), 20)


class TurnedTest(Case):
    def test_turned(self):
        self.assertEqual(turned(rows("1 2 3", "4 5 6")), rows("1 4", "2 5", "3 6"))
        self.assertEqual(turned(()), ())
        self.assertEqual(turned(((), (), ())), ())
        self.assertEqual(turned(turned(rows("1 2 3", "4 5 6"))), rows("1 2 3", "4 5 6"))

    def test_multiplied(self):
        self.assertEqual(multiplied(rows("1 2", "0 1/2", "-1 1"), rows("1 2 3", "4 5 6")), rows("9 12 15", "2 5/2 3", "3 3 3"))
        self.assertEqual(multiplied((), rows("1 2")), ())
        self.assertEqual(multiplied((), ()), ())
        self.assertEqual(multiplied(((), ()), ()), ((), ()))
        self.assertEqual(multiplied(rows("1 2", "3 4"), ((), ())), ((), ()))
        self.assertEqual(multiplied(rows("1/6", "2/3"), rows("3/2")), rows("1/4", "1"))

    def test_widths_that_do_not_go_together(self):
        self.raises(InvalidOperation, multiplied, rows("1 2"), rows("1 2"))
        self.raises(InvalidOperation, multiplied, rows("1"), ())
        self.raises(InvalidOperation, multiplied, ((),), rows("1"))
        self.raises(InvalidOperation, multiplied, rows("1 2"), rows("1", "2", "3"))

    def test_results_that_are_too_long(self):
        rng = random.Random(8)
        some = (tuple(Ratio(1, rng.randint(TWENTY // 2, TWENTY)) for _ in range(130)),)
        self.too_many(2000, multiplied, some, ones(130, 1))
        self.assertEqual(len(multiplied(tuple(one[:40] for one in some), ones(40, 2))[0]), 2)

    def test_against_sums(self):
        rng = random.Random(9)
        for _ in range(50):
            many, middle, width = rng.randint(0, 4), rng.randint(0, 4), rng.randint(0, 4)
            some = linear.random_rows(rng, many, middle, 3, 9, False)
            others = linear.random_rows(rng, middle, width, 3, 9, False)
            width = width if others else 0
            right = [[sum([one[k] * others[k][at] for k in range(middle)]) for at in range(width)] for one in some]
            self.assertEqual(linear.as_fractions(multiplied(linear.as_ratios(some), linear.as_ratios(others))), right)
