"""Stage 5: models."""

import random

from tests.linear import as_fractions, rank
from tests.making import factor, levels_of, model_of, numbers, random_formula, random_table, table_of
from tests.support import Case, fraction, r, row, rows, texts, wrong_values
from worthstead.errors import InvalidFormula, InvalidModel, InvalidTable
from worthstead.exact.ratios import Ratio
from worthstead.exact.spaces import Space
from worthstead.formulas.counts import count_of
from worthstead.formulas.formulas import Formula
from worthstead.formulas.reader import read_formula
from worthstead.formulas.shadows import shadow_of
from worthstead.models.codings import CODINGS, coding_row
from worthstead.models.models import Model
from worthstead.tables.columns import Factor, Numbers
from worthstead.tables.tables import Table

SMALL = table_of(
    "factor a x,y x y y ? x",
    "factor b u,v,w w u ? v v",
    "number n 2 3 5 7 ?",
    "number z ? 1 ? 1 ?",
    "number y 1 2 3 4 1/2",
)


def told_levels(word, total):
    return list(range(1, total)) if word in ("first", "steps") else list(range(total - 1))


def expected(table, formula, codings):
    """The names of the columns and the rows, told in the slowest way."""
    kinds = {name: table[name].kind for name in formula.names}
    kept = [
        at for at in range(table.total)
        if all(table.worths(at)[name] is not None for name in formula.names + ((formula.response or "none"),)
               if name != "none")
    ]
    pairs = []
    for term in formula.terms:
        single = shadow_of(Formula((term,)), kinds)
        for pair in sorted(single, key=lambda one: (len(one[1]), one[1])):
            if pair not in pairs:
                pairs.append(pair)
    names = []
    for n, s in pairs:
        choices = [()]
        for name in s:
            told = told_levels(codings.get(name, "first"), len(table[name].levels))
            choices = [choice + ((name, level),) for choice in choices for level in told]
        names.extend(tuple(sorted(choice + tuple((name, None) for name in n))) for choice in choices)
    lines = []
    for at in kept:
        worths = table.worths(at)
        line = []
        for name in names:
            entry = Ratio(1)
            for word, level in name:
                if level is None:
                    entry = entry * worths[word]
                else:
                    coding, total = codings.get(word, "first"), len(table[word].levels)
                    place = told_levels(coding, total).index(level)
                    entry = entry * coding_row(coding, total, worths[word])[place]
            line.append(entry)
        lines.append(tuple(line))
    return tuple(kept), tuple(names), tuple(lines)


class ModelTest(Case):
    def test_kept_rows(self):
        self.assertEqual(model_of(SMALL, "a").kept, (0, 1, 2, 4))
        self.assertEqual(model_of(SMALL, "a + b").kept, (0, 1, 4))
        self.assertEqual(model_of(SMALL, "a + b:n").kept, (0, 1))
        self.assertEqual(model_of(SMALL, "z ~ a").kept, (1,))
        self.assertEqual(model_of(SMALL, "y ~ a").kept, (0, 1, 2, 4))
        self.assertEqual(model_of(SMALL, "1").kept, (0, 1, 2, 3, 4))
        self.assertEqual(model_of(SMALL, "z ~ n:a - n:a").kept, (1, 3))

    def test_order_of_columns(self):
        model = model_of(SMALL, "b:a + n + a:n", b="sum", a="last")
        self.assertEqual(model.names, (
            (), (("n", None),), (("a", 0),), (("b", 0),), (("b", 1),), (("a", 0), ("b", 0)), (("a", 0), ("b", 1)),
            (("a", 0), ("n", None)),
        ))
        self.assertEqual(model.rows[0], row("1 2 1 -1 -1 -1 -1 2"))
        self.assertEqual(model.rows[1], row("1 3 0 1 0 0 0 0"))

    def test_a_pair_comes_with_the_first_term_that_holds_it(self):
        model = model_of(SMALL, "0 + a:n + a:b")
        self.assertEqual(model.names, (
            (("n", None),), (("a", 1), ("n", None)), (), (("a", 1),), (("b", 1),), (("b", 2),),
            (("a", 1), ("b", 1)), (("a", 1), ("b", 2)),
        ))
        other = model_of(SMALL, "0 + a:b + a:n")
        self.assertEqual(other.names[:2], ((), (("a", 1),)))
        self.assertEqual(sorted(other.names, key=str), sorted(model.names, key=str))

    def test_the_last_factor_changes_fastest(self):
        table = Table({name: factor(3, (0, 1, 2)) for name in "ab"})
        self.assertEqual(
            model_of(table, "0 + a:b").names[5:],
            ((("a", 1), ("b", 1)), (("a", 1), ("b", 2)), (("a", 2), ("b", 1)), (("a", 2), ("b", 2))),
        )

    def test_all_by_chance(self):
        rng = random.Random(51)
        for _ in range(120):
            table = random_table(rng, rng.randint(0, 12), lacking=0.1, bottom=3)
            formula = random_formula(rng, list("abcuv"), 3, rng.choice((None, "y")))
            names = [name for name in formula.names if table[name].kind == "factor"]
            codings = {name: rng.choice(CODINGS) for name in names if rng.random() < 0.7}
            kinds = {name: table[name].kind for name in formula.names}
            total = count_of(formula, kinds)({name: len(table[name].levels) for name in names})
            if total > 24:
                self.too_many(24, Model, table, formula, codings=codings)
                continue
            model = Model(table, formula, codings=codings)
            kept, columns, lines = expected(table, formula, codings)
            self.assertEqual((model.kept, model.names, model.rows), (kept, columns, lines))
            self.assertEqual(len(model), total)
            self.assertEqual(model.kinds, kinds)
            self.assertEqual(model.codings, {name: codings.get(name, "first") for name in names})
            for at, index in enumerate(kept):
                worths = {name: table.worths(index)[name] for name in formula.names}
                self.assertEqual(model.row_for(worths), lines[at])

    def test_properties(self):
        formula = read_formula("y ~ b*n + a")
        model = Model(SMALL, formula, codings={"b": "steps"})
        self.assertEqual(model.table, SMALL)
        self.assertEqual(model.formula, formula)
        self.assertEqual(list(model.codings.items()), [("a", "first"), ("b", "steps")])
        self.assertEqual(list(model.kinds.items()), [("a", "factor"), ("b", "factor"), ("n", "number")])
        self.assertEqual(list(model.levels.items()), [("a", 2), ("b", 3)])
        self.assertEqual(model.kept, (0, 1))
        self.assertEqual(model.response, rows("1 2")[0])
        self.assertEqual(str(model), "model of 2 rows, 7 columns")
        self.assertEqual(len(model), 7)
        self.assertIsNone(model_of(SMALL, "a").response)
        self.assertEqual(model_of(SMALL, "y ~ 0").response, row("1 2 3 4 1/2"))

    def test_what_was_returned_can_be_changed(self):
        codings = {"a": "sum"}
        model = Model(SMALL, read_formula("y ~ a*n"), codings=codings)
        codings["a"] = "last"
        for one in (model.codings, model.kinds, model.levels):
            one["a"] = one["q"] = 3
        self.assertEqual(model.codings, {"a": "sum"})
        self.assertEqual(model.kinds, {"a": "factor", "n": "number"})
        self.assertEqual(model.levels, {"a": 2})
        self.assertEqual(model, Model(SMALL, read_formula("y ~ a*n"), codings={"a": "sum"}))

    def test_without_terms(self):
        model = model_of(SMALL, "0")
        self.assertEqual((model.kept, model.names, model.rows), ((0, 1, 2, 3, 4), (), ((),) * 5))
        self.assertEqual(model.space, Space(5, ()))
        self.assertEqual((model.codings, model.kinds, model.levels), ({}, {}, {}))
        self.assertEqual(str(model), "model of 5 rows, 0 columns")
        self.assertEqual(model.row_for({}), ())

    def test_the_constant_alone(self):
        model = model_of(SMALL, "y ~ 1")
        self.assertEqual((model.names, model.rows), (((),), ((r(1),),) * 5))
        self.assertEqual(model.space, Space.ones(5))
        self.assertEqual(model.span_of(()), Space.ones(5))

    def test_without_the_constant(self):
        model = model_of(SMALL, "0 + a")
        self.assertEqual(model.names, ((), (("a", 1),)))
        self.assertEqual(model.span_of(("a",)), Space(4, rows("1 0 0 1", "0 1 1 0")))
        self.unknown((), model.span_of, ())
        self.assertEqual(model_of(SMALL, "0 + n").names, ((("n", None),),))

    def test_without_kept_rows(self):
        for table in (table_of("factor a x,y", "number y"), table_of("factor a x,y x ?", "number y ? 1")):
            model = model_of(table, "y ~ a")
            self.assertEqual((model.kept, model.rows, model.response), ((), (), ()))
            self.assertEqual(len(model), 2)
            self.assertEqual(model.space, Space(0, ()))
            self.assertEqual(model.span_of(("a",)), Space(0, ()))
            self.assertEqual(str(model), "model of 0 rows, 2 columns")

    def test_spaces(self):
        rng = random.Random(52)
        for _ in range(40):
            table = random_table(rng, rng.randint(0, 9), bottom=2)
            formula = random_formula(rng, list("abu"), 3)
            model = Model(table, formula)
            columns = tuple(tuple(line[at] for line in model.rows) for at in range(len(model)))
            self.assertEqual(model.space, Space(len(model.kept), columns))
            for term in formula.terms:
                held = shadow_of(Formula((term,)), model.kinds)
                mine = [
                    column for column, name in zip(columns, model.names)
                    if (tuple(n for n, at in name if at is None), tuple(n for n, at in name if at is not None)) in held
                ]
                self.assertEqual(model.span_of(term), Space(len(model.kept), tuple(mine)))
            for value in [("q",), ["a"], None, 0, (("a",),)]:
                self.unknown(value, model.span_of, value)

    def test_all_cells_leave_no_column_that_hangs(self):
        lines = [(a, b, u) for a in range(2) for b in range(3) for u in (0, 1)]
        table = Table({
            "a": factor(2, [line[0] for line in lines]), "b": factor(3, [line[1] for line in lines]),
            "u": numbers(*[line[2] for line in lines]),
        })
        for text in ("a*b*u", "a + b:u", "0 + a:u", "b*u - b"):
            model = model_of(table, text)
            self.assertEqual(len(model.space), len(model), text)
        fewer = model_of(table.picked((0, 1, 2, 3)), "a*b*u")
        self.assertEqual((len(fewer), len(fewer.space)), (12, 4))

    def test_equal_spaces_for_all_codings(self):
        rng = random.Random(53)
        for _ in range(20):
            table = random_table(rng, rng.randint(1, 9), lacking=0.1)
            formula = random_formula(rng, list("abu"), 3)
            one = Model(table, formula)
            names = list(one.levels)
            for word in CODINGS:
                other = Model(table, formula, codings={name: word for name in names})
                self.assertEqual((one.kept, one.space), (other.kept, other.space))
                self.assertEqual(one == other, word == "first" or not names)

    def test_equal(self):
        one = model_of(SMALL, "a + b")
        self.assertEqual(one, model_of(SMALL, "a + b", a="first", b="first"))
        for other in (
            model_of(SMALL, "a + b", a="sum"), model_of(SMALL, "b + a"), model_of(SMALL.picked((0, 1)), "a + b"),
            model_of(SMALL, "y ~ a + b"),
        ):
            self.assertFalse(one == other)
            self.assertTrue(one != other)
        for value in wrong_values():
            self.assertFalse(one == value)

    def test_cannot_be_iterated_over(self):
        self.assertRaises(TypeError, iter, model_of(SMALL, "a"))


class ModelErrorTest(Case):
    def test_kinds_of_arguments(self):
        formula = read_formula("a")
        self.all_rejected(InvalidTable, lambda table: Model(table, None, codings=7), right=(Table({}), Table({}, total=3)))
        self.all_rejected(InvalidFormula, lambda one: Model(SMALL, one, codings=7), right=(Formula(()), Formula(((), ("a",)))))
        self.all_rejected(InvalidModel, lambda one: Model(SMALL, formula, codings=one), right=(None, {}))
        for wrong in ({"a": "First"}, {"A": "first"}, {"a": None}, {"a": ("first",)}, (("a", "first"),), {("a",): "sum"}):
            self.raises(InvalidModel, Model, Table({}), formula, codings=wrong)

    def test_unknown_names(self):
        self.unknown("p", Model, SMALL, read_formula("r ~ q + p + a"))
        self.unknown("q", Model, SMALL, read_formula("a ~ q"), codings={"y": "sum"})
        self.unknown("r", Model, SMALL, read_formula("r ~ a"), codings={"n": "sum"})

    def test_factors_only(self):
        for codings in ({"n": "sum"}, {"q": "sum"}, {"y": "sum"}, {"b": "sum"}, {"a": "sum", "z": "last"}):
            self.raises(InvalidModel, Model, SMALL, read_formula("y ~ a + n"), codings=codings)
        self.raises(InvalidModel, Model, SMALL, read_formula("b ~ a + n"))
        self.raises(InvalidModel, Model, SMALL, read_formula("b ~ 1"))

    def test_codings_of_some_and_all(self):
        for codings in (None, {}, {"a": "sum"}, {"b": "last", "a": "steps"}):
            model = Model(SMALL, read_formula("a + b + n"), codings=codings)
            self.assertEqual(model.codings, {**{"a": "first", "b": "first"}, **(codings or {})})

    def test_sixty_four_rows(self):
        table = Table({"u": numbers(*range(66)), "v": numbers(*([None] * 2 + [1] * 64))})
        self.assertEqual(len(model_of(table, "u + v").kept), 64)
        self.too_many(64, model_of, table, "u")
        self.too_many(64, model_of, table, "0")
        self.assertEqual(model_of(table, "v ~ 0").kept, tuple(range(2, 66)))

    def test_twenty_four_columns(self):
        table = Table({"a": factor(12, (0, 1)), "b": factor(2, (0, 1)), "c": factor(3, (0, 1)), "d": factor(12, (0, 1))})
        self.assertEqual(len(model_of(table, "a*b")), 24)
        self.too_many(24, model_of, table, "a*b + c")
        self.assertEqual(len(model_of(table, "a + d")), 23)
        self.too_many(24, model_of, table, "a + d + c")
        big = Table({name: factor(12, (0,)) for name in "abcdefghi"})
        self.too_many(24, model_of, big, "a:b:c:d:e:f:g:h:i")
        self.assertEqual(len(model_of(Table({n: numbers(1) for n in "abcdefghi"}), "(a+b+c+d+e+f)^2")), 22)

    def test_six_digits(self):
        for text, limit in (("999999", None), ("1/999999", None), ("1000000", 6), ("-1/1000000", 6)):
            u = Table({"u": Numbers((r(1), r(text))), "v": Numbers((r(1), r(2)))})
            for one in ("u", "u ~ v", "v ~ u", "u ~ 0"):
                if limit is None:
                    self.assertEqual(len(model_of(u, one).kept), 2)
                else:
                    self.too_many(6, model_of, u, one)
            self.assertEqual(len(model_of(u, "v").kept), 2)
        hidden = Table({"u": Numbers((r(1), r("1000000"))), "v": Numbers((r(1), None))})
        self.assertEqual(model_of(hidden, "u + v").kept, (0,))

    def test_twenty_digits(self):
        table = Table({"u": numbers(100000), "v": numbers(100000), "w": numbers(100000), "x": numbers(9999), "z": numbers(1)})
        self.assertEqual(len(model_of(table, "0 + u:v:w:x").names), 1)
        self.too_many(20, model_of, Table({**table.columns, "x": numbers(100000)}), "0 + u:v:w:x")
        under = {name: numbers(f"1/{one}") for name, one in zip("uvwx", (100000, 100000, 100000, 99999))}
        self.assertEqual(texts(model_of(Table(under), "0 + u:v:w:x").rows), [["1/99999000000000000000"]])
        self.too_many(20, model_of, Table({**under, "x": numbers("1/100000")}), "0 + u:v:w:x")

    def test_order_of_errors(self):
        wide = Table({
            "a": factor(12, (0,) * 65), "b": factor(12, (0,) * 65), "u": numbers(*[1000000] * 65),
            "v": numbers(*[999999] * 65), "w": numbers(*[999999] * 65), "x": numbers(*[999999] * 65),
            "z": numbers(*[999999] * 65),
        })
        few = wide.picked((0,))
        self.raises(InvalidTable, Model, None, None, codings=1)
        self.raises(InvalidFormula, Model, wide, None, codings=1)
        self.raises(InvalidModel, Model, wide, read_formula("q"), codings=1)
        self.unknown("q", Model, wide, read_formula("a ~ q"), codings={"u": "sum"})
        self.raises(InvalidModel, Model, wide, read_formula("a ~ b:u"))
        self.too_many(64, model_of, wide, "u ~ a:b + v:w:x:z")
        self.too_many(24, model_of, few, "u ~ a:b + v:w:x:z")
        self.too_many(6, model_of, few, "u ~ a + v:w:x:z")
        self.too_many(20, model_of, few, "a + v:w:x:z")


class RowForTest(Case):
    def test_rows(self):
        model = model_of(SMALL, "a:n + b", b="steps")
        self.assertEqual(model.row_for({"n": r("1/3"), "b": 0, "a": 1}), row("1 -1 -1/2 1/3 1/3"))
        self.assertEqual(model.row_for({"n": r("-7"), "b": 2, "a": 0}), row("1 0 1 -7 0"))

    def test_wrong_worths(self):
        model = model_of(SMALL, "a + n")
        right = {"a": 0, "n": r(1)}
        self.all_rejected(InvalidModel, model.row_for)
        for wrong in (
            {"a": 0}, {**right, "b": 0}, {**right, "y": r(1)}, {**right, "a": 2}, {**right, "a": -1}, {**right, "a": None},
            {**right, "a": True}, {**right, "n": 1}, {**right, "n": None}, {"a": r(1), "n": 0}, {"a": "x", "n": r(1)},
            {"a": 0, "q": r(1)}, {"b": 0, "n": r(1)},
        ):
            self.raises(InvalidModel, model.row_for, wrong)
        self.raises(InvalidModel, model.row_for, {"a": 0, "n": None})
        self.raises(InvalidModel, model.row_for, {"a": 5, "n": r(10 ** 7)})

    def test_long_worths(self):
        model = model_of(Table({name: numbers(1) for name in "uvwx"}), "0 + u:v:w:x")
        most = {"u": r(999999), "v": r(999999), "w": r(99999), "x": r(999)}
        self.assertEqual(len(str(model.row_for(most)[0])), 20)
        self.too_many(20, model.row_for, {**most, "x": r(9999)})
        self.too_many(20, model.row_for, {name: Ratio(1, one.top) for name, one in {**most, "x": r(9999)}.items()})
        self.too_many(6, model.row_for, {**most, "x": r(1000000)})
        self.too_many(6, model.row_for, {**most, "x": r("1/1000000")})
        self.assertEqual(model.row_for({**most, "x": r("1/999999")})[0], r(999999) * r(99999))

    def test_levels_without_rows(self):
        table = Table({"a": Factor(levels_of(3), (0, 0))})
        model = model_of(table, "a", a="sum")
        self.assertEqual(model.row_for({"a": 2}), row("1 -1 -1"))
        self.assertEqual(rank(as_fractions(model.rows), 3), 1)
        self.assertEqual(fraction(model.row_for({"a": 1})[2]), 1)
