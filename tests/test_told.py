"""Stage 6: what the rows of a model tell."""

import itertools
import random

from tests.linear import as_fractions, base, rank
from tests.making import factor, model_of, numbers, random_formula, random_table, table_of
from tests.support import Case, fraction, long_ratio, r, row, texts, wrong_values
from worthstead.errors import InvalidModel, InvalidRatio
from worthstead.exact.ratios import Ratio, mean, total
from worthstead.models.codings import CODINGS
from worthstead.models.models import Model
from worthstead.models.told import hanging, is_told, means, told
from worthstead.tables.tables import Table

LITTLE = table_of("factor a x,y x y y", "factor b u,v,w u u v", "number n 1 2 3")


def product(one, other):
    return total(tuple(left * right for left, right in zip(one, other)))


class ToldTest(Case):
    def random_models(self, seed, many):
        rng = random.Random(seed)
        for _ in range(many):
            table = random_table(rng, rng.randint(0, 8), bottom=2)
            yield rng, Model(table, random_formula(rng, list("abu"), 3))

    def test_by_chance(self):
        words = []
        for rng, model in self.random_models(61, 80):
            wanted = tuple(Ratio(rng.randint(-3, 3), rng.randint(1, 2)) for _ in model.names)
            if model.rows and rng.random() < 0.6:
                one, other = rng.choice(model.rows), rng.choice(model.rows)
                wanted = tuple(left - right + right + right for left, right in zip(one, other))
            word, shown = told(model, wanted)
            words.append(word)
            lines = as_fractions(model.rows)
            is_sum = rank(lines + as_fractions([wanted]), len(model)) == rank(lines, len(model))
            self.assertEqual(word, "told" if is_sum else "free")
            self.assertTrue(is_told(model, wanted, (word, shown)))
            if word == "told":
                self.assertEqual(len(shown), len(model.kept))
                for place, weight in enumerate(wanted):
                    self.assertEqual(product(shown, tuple(line[place] for line in model.rows)), weight)
            else:
                self.assertEqual([product(shown, line) for line in model.rows], [Ratio(0)] * len(model.rows))
                self.assertEqual(product(shown, wanted), Ratio(1))
        self.assertEqual(set(words), {"told", "free"})

    def test_other_certificates(self):
        model = model_of(LITTLE, "a + b")
        wanted = row("0 0 1 0")
        self.assertEqual(told(model, wanted), ("told", row("0 -1 1")))
        twice = model_of(LITTLE.picked((0, 0, 1, 2)), "a + b")
        for numbers_told in ("0 0 -1 1", "5 -5 -1 1", "1/3 -1/3 -1 1"):
            self.assertTrue(is_told(twice, wanted, ("told", row(numbers_told))))
        self.assertFalse(is_told(twice, wanted, ("told", row("1 0 -1 1"))))
        loose = row("0 0 0 2")
        for weights in ("0 0 0 1/2", "0 0 0 1/2"):
            self.assertTrue(is_told(model, loose, ("free", row(weights))))
        fewer = model_of(LITTLE.picked((0,)), "a + b")
        for weights in ("0 1 0 0", "0 1 7 -2"):
            self.assertTrue(is_told(fewer, row("0 1 0 0"), ("free", row(weights))))
        self.assertFalse(is_told(fewer, row("0 1 0 0"), ("free", row("1 1 0 0"))))
        self.assertFalse(is_told(fewer, row("0 1 0 0"), ("free", row("0 2 0 0"))))

    def test_near_certificates(self):
        model = model_of(LITTLE, "a + b")
        wanted = row("0 0 1 0")
        right = row("0 -1 1")
        for wrong in (
            ("told", right + (r(0),)), ("told", right[1:]), ("told", (0, -1, 1)), ("told", list(right)), ["told", right],
            ("free", right), ("sum", right), ("apart", right), ("told",), ("told", right, 1), right, ("told", row("0 0 1")),
            (True, right), (("told",), right), ([], right), (None, right), ("told", None), ("told", (r(0), -1, r(1))),
        ):
            self.assertFalse(is_told(model, wanted, wrong), wrong)
        loose = row("0 0 0 1")
        for wrong in (
            ("free", row("0 0 0 1 0")), ("free", row("0 0 1")), ("free", (0, 0, 0, 1)), ("told", loose), ("free", row("0 0 0 2")),
            ("apart", loose), ("free", row("0 1 0 1")),
        ):
            self.assertFalse(is_told(model, loose, wrong), wrong)
        for value in wrong_values():
            self.assertFalse(is_told(model, wanted, value))

    def test_without_rows_and_columns(self):
        empty = model_of(LITTLE.picked(()), "a")
        self.assertEqual(told(empty, row("0 0")), ("told", ()))
        word, weights = told(empty, row("0 3"))
        self.assertEqual((word, weights[1]), ("free", r("1/3")))
        self.assertTrue(is_told(empty, row("0 3"), ("free", row("7 1/3"))))
        bare = model_of(LITTLE, "0")
        self.assertEqual(told(bare, ()), ("told", row("0 0 0")))
        self.assertTrue(is_told(bare, (), ("told", row("1 5 -2"))))
        self.assertFalse(is_told(bare, (), ("free", ())))

    def test_wrong_arguments(self):
        model = model_of(LITTLE, "a + b")
        for call in (told, lambda one, wanted: is_told(one, wanted, 3)):
            self.all_rejected(InvalidModel, lambda one: call(one, None))
            self.all_rejected(InvalidRatio, lambda one: call(model, one))
            for wrong in (row("0 0 0"), row("0 0 0 0 0"), (0, 0, 0, 0), list(row("0 0 0 0")), (r(1), r(1), r(1), None)):
                self.raises(InvalidRatio, call, model, wrong)
            self.too_many(20, call, model, (long_ratio(21), r(0), r(0), r(0)))
            self.too_many(20, call, model, (r(0), r(0), r(0), long_ratio(2, 21)))
            self.raises(InvalidRatio, call, model, (long_ratio(21), r(0), r(0), 0))
        self.assertEqual(told(model, (long_ratio(20), r(0), r(0), r(0)))[0], "told")
        self.assertTrue(is_told(model, row("1 0 0 0"), ("told", row("1 0 0"))))


class HangingTest(Case):
    def test_by_chance(self):
        rng = random.Random(62)
        some = 0
        for _ in range(60):
            table = random_table(rng, rng.randint(0, 8), bottom=2)
            model = Model(table, random_formula(rng, list("abu"), 3))
            columns = [[fraction(line[at]) for line in model.rows] for at in range(len(model))]
            kept = base(columns, len(model.rows))
            found = hanging(model)
            some += len(found)
            self.assertEqual(list(found), [at for at in range(len(model)) if at not in kept])
            for at, multiples in found.items():
                self.assertEqual(len(multiples), len(kept))
                for line, entry in enumerate(columns[at]):
                    made = sum(fraction(one) * columns[place][line] for one, place in zip(multiples, kept))
                    self.assertEqual(made, entry)
                self.assertFalse(any(one for one, place in zip(multiples, kept) if place > at))
            # A combination is told exactly if its weights at the hanging columns are made of those at the base.
            wanted = [Ratio(rng.randint(-3, 3)) for _ in model.names]
            for at, multiples in found.items():
                wanted[at] = total(tuple(one * wanted[place] for one, place in zip(multiples, kept)))
            self.assertEqual(told(model, tuple(wanted))[0], "told")
            for at in found:
                other = wanted[:at] + [wanted[at] + Ratio(1)] + wanted[at + 1:]
                self.assertEqual(told(model, tuple(other))[0], "free")
        self.assertGreater(some, 50)

    def test_small_ones(self):
        self.assertEqual(texts(hanging(model_of(LITTLE, "a + b")).get(3)), ["0", "0", "0"])
        self.assertEqual(hanging(model_of(LITTLE, "1 + n")), {})
        both = model_of(table_of("number n 1 2 3", "number u 3 5 7", "number v 0 0 0"), "n + u + v")
        self.assertEqual({at: texts(one) for at, one in hanging(both).items()}, {2: ["1", "2"], 3: ["0", "0"]})
        self.assertEqual(hanging(model_of(LITTLE.picked(()), "a + b")), {0: (), 1: (), 2: (), 3: ()})
        self.assertEqual(hanging(model_of(LITTLE, "0")), {})
        zero = model_of(table_of("number v 0 0"), "0 + v")
        self.assertEqual(hanging(zero), {0: ()})
        self.all_rejected(InvalidModel, hanging)


def slow_mean(model, names, cell, at):
    """The mean of the rows at all cells that agree with a cell."""
    factors = list(model.levels)
    found = []
    for whole in itertools.product(*[range(model.levels[name]) for name in factors]):
        worths = dict(zip(factors, whole))
        if all(worths[name] == level for name, level in zip(names, cell)):
            found.append(model.row_for({**worths, **at}))
    return tuple(mean(tuple(line[place] for line in found)) for place in range(len(model)))


class MeansTest(Case):
    def test_by_chance(self):
        rng = random.Random(64)
        for _ in range(40):
            table = random_table(rng, rng.randint(0, 5), number_names="uv")
            formula = random_formula(rng, list("abcuv"), 3)
            names = [name for name in formula.names if name in "abc"]
            model = Model(table, formula, codings={name: rng.choice(CODINGS) for name in names})
            given = {name: Ratio(rng.randint(-3, 3), 2) for name in formula.names if name in "uv"}
            for many in range(len(names) + 1):
                chosen = tuple(rng.sample(names, many))
                found = means(model, chosen, at=given)
                cells = list(itertools.product(*[range(model.levels[name]) for name in chosen]))
                self.assertEqual(list(found), cells)
                for cell in cells:
                    self.assertEqual(found[cell], slow_mean(model, chosen, cell, given))
                zero = {name: Ratio(0) for name in given}
                self.assertEqual(means(model, chosen), means(model, chosen, at=zero))

    def test_small_ones(self):
        model = model_of(LITTLE, "a*b + n", a="sum")
        found = means(model, ("b", "a"), at={"n": r("1/2")})
        self.assertEqual(list(found), [(0, 0), (0, 1), (1, 0), (1, 1), (2, 0), (2, 1)])
        self.assertEqual(found[(2, 1)], model.row_for({"a": 1, "b": 2, "n": r("1/2")}))
        self.assertEqual(means(model, ()), {(): row("1 0 1/3 1/3 0 0 0")})
        self.assertEqual(list(means(model, ("a",))), [(0,), (1,)])

    def test_order_of_columns(self):
        model = model_of(LITTLE, "b + n")
        self.assertEqual(model.names, ((), (("b", 1),), (("b", 2),), (("n", None),)))
        self.assertEqual(means(model, (), at={"n": r(4)}), {(): row("1 1/3 1/3 4")})
        self.assertEqual(means(model, ("b",)), {(0,): row("1 0 0 0"), (1,): row("1 1 0 0"), (2,): row("1 0 1 0")})

    def test_wrong_arguments(self):
        model = model_of(LITTLE, "a + b + n")
        self.all_rejected(InvalidModel, lambda one: means(one, None, at=3))
        self.all_rejected(InvalidModel, lambda one: means(one, ()))
        self.all_rejected(InvalidModel, lambda one: means(model, one), right=((), ("a",)))
        for wrong in (("a", "a"), ("n",), ("q",), ["a"], "a", ("a", "n"), (("a",),)):
            self.raises(InvalidModel, means, model, wrong)
        self.all_rejected(InvalidModel, lambda one: means(model, ("a",), at=one), right=(None,))
        for wrong in ({}, {"n": 1}, {"n": None}, {"a": r(1)}, {"n": r(1), "a": r(1)}, {"n": r(1), "q": r(1)}, (("n", r(1)),)):
            self.raises(InvalidModel, means, model, ("a",), at=wrong)
        self.raises(InvalidModel, means, model_of(LITTLE, "a + b"), ("n",))
        self.assertEqual(means(model_of(LITTLE, "a"), (), at={}), {(): row("1 1/2")})
        self.raises(InvalidModel, means, model_of(LITTLE, "a"), (), at={"n": r(1)})

    def test_many_cells(self):
        table = Table({
            **{name: factor(4, ()) for name in "abcdef"}, **{name: factor(2, ()) for name in "ghi"},
        })
        model = model_of(table, "a + b + c + d + e + f + g")
        self.assertEqual(len(means(model, tuple("abcdef"))), 4096)
        self.too_many(4096, means, model, tuple("abcdefg"))
        self.too_many(4096, means, model, tuple("gfedcba"))

    def test_long_ratios(self):
        table = Table({**{name: numbers() for name in "uvwx"}, "a": factor(11, ())})
        model = model_of(table, "0 + u:v:w:x")
        most = {"u": r(999999), "v": r(999999), "w": r(99999), "x": r(999)}
        self.assertEqual(len(means(model, (), at=most)), 1)
        self.too_many(20, means, model, (), at={**most, "x": r(99999)})
        self.too_many(6, means, model, (), at={**most, "x": r(1000000)})
        self.too_many(6, means, model, (), at={**most, "x": r("1/1000000")})
        under = {name: Ratio(1, one.top) for name, one in most.items()}
        both = model_of(table, "0 + u:v:w:x + a")
        self.assertEqual(len(means(both, ("a",), at=under)), 11)
        third = model_of(table, "0 + a:u:v:w:x")
        # The mean of a coding divides by the number of levels.
        self.too_many(20, means, third, (), at={**under, "u": r("1/999998"), "x": r("1/997")})
        self.assertEqual(len(means(third, ("a",), at=under)), 11)

    def test_order_of_errors(self):
        table = Table({**{name: factor(4, ()) for name in "abcdef"}, "g": factor(2, ()), "u": numbers()})
        model = model_of(table, "a + b + c + d + e + f + g + u")
        seven = tuple("abcdefg")
        self.raises(InvalidModel, means, model, ("u",), at=None)
        self.raises(InvalidModel, means, model, seven, at={})
        self.too_many(4096, means, model, seven, at={"u": r(10 ** 6)})
        self.too_many(6, means, model, ("a",), at={"u": r(10 ** 6)})
