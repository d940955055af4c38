"""Stage 14: kept fits."""

import random

from tests.making import factor, long_model, numbers, random_formula, random_table
from tests.support import Case, long_ratio, r, wrong_values
from worthstead.desk.kept import KeptFit
from worthstead.errors import (
    InvalidFormula,
    InvalidModel,
    InvalidOperation,
    InvalidTable,
    NothingToUndo,
    Refused,
    TooMany,
    UnknownName,
)
from worthstead.exact.ratios import Ratio
from worthstead.fits.fits import Fit
from worthstead.formulas.reader import read_formula
from worthstead.models.models import Model
from worthstead.models.told import told
from worthstead.tables.columns import Numbers
from worthstead.tables.tables import Table

DATA = Table({"a": factor(2, (0, 1)), "y": numbers(1, 3)})
ERRORS = (InvalidModel, InvalidFormula, TooMany, UnknownName, Refused)


def kept_of(text="y ~ a", table=DATA, **codings):
    return KeptFit(table, read_formula(text), codings=codings or None)


def row(a, y):
    return {"a": a, "y": None if y is None else r(y)}


class Twin:
    """What a kept fit should be: all states in plain lists, each made anew."""

    def __init__(self, table, formula, codings):
        self.codings = codings
        self.kinds = {name: (table[name].kind, getattr(table[name], "levels", None)) for name in table.names}
        rows = [(at, table.worths(at)) for at in range(len(table))]
        self.states = [(rows, formula, [])]
        self.at = 0
        self.unused = len(rows)
        self.elder = None

    @property
    def now(self):
        return self.states[self.at]

    def table_of(self, state):
        rows = state[0]
        columns = {}
        for name, (kind, levels) in self.kinds.items():
            values = tuple(worths[name] for _, worths in rows)
            columns[name] = factor(len(levels), values) if kind == "factor" else Numbers(values)
        return Table(columns, total=len(rows))

    def model_of(self, state):
        return Model(self.table_of(state), state[1], codings=self.codings)

    def weights_of(self, state):
        model = self.model_of(state)
        return dict(zip(model.names, Fit(model).weights))

    def keeps(self, model, pledge):
        if any(name not in model.names for name in pledge):
            return False
        return told(model, tuple(pledge.get(name, r(0)) for name in model.names))[0] == "told"

    def check(self, state):
        """The error of a step to a state, or None."""
        try:
            model = self.model_of(state)
        except ERRORS as error:
            return error
        for index, pledge in enumerate(state[2]):
            if not self.keeps(model, pledge):
                return Refused(("pledge", index))
        return None

    def step(self, state):
        self.elder = self.now
        self.states = self.states[:self.at + 1] + [state]
        self.at += 1

    def move(self, by):
        self.elder = self.now
        self.at += by

    def changes(self):
        if self.elder is None:
            return ()
        before, behind = self.weights_of(self.elder), self.weights_of(self.now)
        names = sorted(set(before) | set(behind))
        return tuple((name, before.get(name), behind.get(name)) for name in names if before.get(name) != behind.get(name))


class KeptTest(Case):
    def compare(self, kept, slow):
        rows, formula, pledges = slow.now
        table = slow.table_of(slow.now)
        model = slow.model_of(slow.now)
        self.assertEqual((kept.numbers, kept.table, kept.formula), (tuple(number for number, _ in rows), table, formula))
        self.assertEqual((kept.model, kept.fit), (model, Fit(model)))
        self.assertEqual((kept.fit.weights, kept.model.rows, kept.model.names), (Fit(model).weights, model.rows, model.names))
        self.assertEqual(kept.pledges, tuple(pledges))
        self.assertEqual([list(one) for one in kept.pledges], [sorted(one) for one in pledges])
        self.assertEqual((kept.steps, kept.changes, len(kept)), (slow.at, slow.changes(), len(rows)))
        self.assertEqual(str(kept), f"kept fit of {len(rows)} rows, {len(model.names)} columns")
        self.assertEqual(kept.codings, slow.codings or {})

    def same_error(self, error, call, *args):
        found = self.raises(type(error), call, *args)
        for name in ("limit", "wanted", "reason", "given"):
            self.assertEqual(getattr(found, name, None), getattr(error, name, None))

    def one_step(self, rng, kept, slow):
        rows, formula, pledges = slow.now
        word = rng.choice(["put", "put", "drop", "drop", "bring", "take", "pledge", "pledge", "release", "undo", "redo"])
        if word == "put":
            new = {name: None if rng.random() < 0.1 else rng.randrange(len(levels)) if kind == "factor" else Ratio(rng.randint(-3, 3))
                   for name, (kind, levels) in slow.kinds.items()}
            state = (rows + [(slow.unused, new)], formula, pledges)
            self.settle(kept, slow, state, slow.unused, kept.put, new)
            slow.unused += slow.now is state
        elif word == "drop" and rows:
            number = rng.choice(rows)[0]
            self.settle(kept, slow, ([one for one in rows if one[0] != number], formula, pledges), None, kept.drop, number)
        elif word == "bring":
            term = tuple(sorted(rng.sample(["a", "b", "u"], rng.randint(0, 3))))
            if term in formula:
                self.raises(InvalidFormula, kept.bring, term)
            else:
                self.settle(kept, slow, (rows, formula.with_term(term), pledges), None, kept.bring, term)
        elif word == "take" and len(formula):
            term = rng.choice(formula.terms)
            self.settle(kept, slow, (rows, formula.without(term), pledges), None, kept.take, term)
        elif word == "pledge" and kept.model.names:
            self.pledge(rng, kept, slow)
        elif word == "release" and pledges:
            index = rng.randrange(len(pledges))
            self.assertIsNone(kept.release(index))
            slow.step((rows, formula, pledges[:index] + pledges[index + 1:]))
        elif word in ("undo", "redo"):
            most = slow.at if word == "undo" else len(slow.states) - 1 - slow.at
            many = rng.randint(0, min(most, 3))
            call = kept.undo if word == "undo" else kept.redo
            sign = -1 if word == "undo" else 1
            self.assertEqual(call() if many == 1 else call(many=many), slow.at + sign * many)
            if many:
                slow.move(sign * many)

    def pledge(self, rng, kept, slow):
        rows, formula, pledges = slow.now
        names = rng.sample(kept.model.names, rng.randint(1, min(2, len(kept.model.names))))
        new = {name: Ratio(rng.choice([-1, 1, 2])) for name in names}
        if not slow.keeps(kept.model, new):
            self.refused(("free",), kept.pledge, new)
        else:
            self.assertEqual(kept.pledge(new), len(pledges))
            slow.step((rows, formula, pledges + [new]))

    def settle(self, kept, slow, state, result, call, *args):
        error = slow.check(state)
        if error is None:
            self.assertEqual(call(*args), result)
            slow.step(state)
        else:
            self.rejected = self.rejected + 1
            self.same_error(error, call, *args)

    def test_by_chance(self):
        rng = random.Random(1401)
        self.rejected = 0
        for _ in range(40):
            table = random_table(rng, rng.randint(0, 8), number_names="uy")
            formula = random_formula(rng, ["a", "b", "u"], 3, "y")
            codings = rng.choice([None, None, {}])
            if "a" in formula.names and rng.random() < 0.3:
                codings = {"a": "sum"}
            try:
                kept = KeptFit(table, formula, codings=codings)
            except TooMany:
                continue
            slow = Twin(table, formula, codings)
            for at in range(30):
                self.one_step(rng, kept, slow)
                self.compare(kept, slow)
                if at % 10 == 9:
                    # A twin goes on by itself.
                    other = kept.twin()
                    self.assertEqual(other, kept)
                    self.compare(other, slow)
                    if kept.steps:
                        other.undo(many=kept.steps)
                    self.compare(kept, slow)
                    kept = kept.twin()
        self.assertGreater(self.rejected, 30)

    def test_small_ones(self):
        kept = kept_of()
        self.assertEqual((kept.numbers, kept.pledges, kept.changes, kept.steps, kept.codings, len(kept)), ((0, 1), (), (), 0, {}, 2))
        self.assertEqual(str(kept), "kept fit of 2 rows, 2 columns")
        self.assertEqual((kept.put(row(1, 5)), kept.put(row(0, 5)), kept.numbers), (2, 3, (0, 1, 2, 3)))
        self.assertEqual((kept.drop(1), kept.numbers, kept.table["y"]), (None, (0, 2, 3), numbers(1, 5, 5)))
        self.assertEqual((kept.undo(), kept.numbers), (2, (0, 1, 2, 3)))
        self.assertEqual((kept.undo(many=2), kept.numbers, kept.table), (0, (0, 1), DATA))
        self.assertEqual((kept.redo(), kept.numbers), (1, (0, 1, 2)))
        # Numbers that were taken back are not given again to others.
        self.assertEqual((kept.undo(), kept.put(row(1, 9)), kept.numbers), (0, 4, (0, 1, 4)))
        self.raises_nothing_left(kept.redo, 1)
        self.assertRaises(TypeError, iter, kept)

    def raises_nothing_left(self, call, many):
        self.assertEqual(self.raises(NothingToUndo, call, many=many).many, many)

    def test_undo_and_redo(self):
        kept = kept_of()
        for at in range(4):
            kept.put(row(at % 2, at))
        self.raises_nothing_left(kept.undo, 5)
        self.raises_nothing_left(kept.redo, 1)
        self.assertEqual((kept.undo(many=0), kept.redo(many=0), kept.undo(many=3), kept.steps), (4, 4, 1, 1))
        self.raises_nothing_left(kept.redo, 4)
        self.raises_nothing_left(kept.undo, 2)
        self.raises_nothing_left(kept.undo, 10 ** 59)
        self.assertEqual((kept.redo(many=2), kept.numbers), (3, (0, 1, 2, 3, 4)))
        # A rejected step takes nothing away from what can be done again, a new one does.
        self.number(9, kept.drop, 9)
        self.raises(InvalidFormula, kept.bring, ("a",))
        self.raises(UnknownName, KeptFit, DATA, read_formula("y ~ z"))
        self.assertEqual((kept.redo(), kept.undo()), (4, 3))
        kept.drop(0)
        self.raises_nothing_left(kept.redo, 1)
        self.assertEqual((kept.steps, kept.undo(many=4), kept.redo(many=4), kept.numbers), (4, 0, 4, (1, 2, 3, 4)))
        for value in wrong_values():
            if not (type(value) is int and 0 <= value < 10 ** 60):
                self.number(value, kept.undo, many=value)
                self.number(value, kept.redo, many=value)
        self.assertRaises(TypeError, kept.undo, 1)
        self.assertEqual((kept.steps, kept.numbers), (4, (1, 2, 3, 4)))

    def test_changes(self):
        kept = kept_of()
        a = (("a", 1),)
        kept.put(row(1, 5))
        self.assertEqual(kept.changes, ((a, r(2), r(3)),))
        self.assertEqual((kept.undo(many=0), kept.redo(many=0), kept.changes), (1, 1, ((a, r(2), r(3)),)))
        self.assertEqual((kept.undo(), kept.changes), (0, ((a, r(3), r(2)),)))
        self.assertEqual((kept.redo(), kept.changes), (1, ((a, r(2), r(3)),)))
        self.number(7, kept.drop, 7)
        self.assertEqual(kept.changes, ((a, r(2), r(3)),))
        kept.pledge({(): r(1)})
        self.assertEqual(kept.changes, ())
        kept.put(row(0, 3))
        self.assertEqual(kept.changes, (((), r(1), r(2)), (a, r(3), r(2))))
        kept.put(row(None, 3))
        self.assertEqual(kept.changes, ())
        # Several steps at a time are told together.
        self.assertEqual((kept.undo(many=4), kept.changes), (0, (((), r(2), r(1)),)))
        kept.take(("a",))
        self.assertEqual(kept.changes, (((), r(1), r(2)), (a, r(2), None)))
        kept.bring(("a",))
        self.assertEqual(kept.changes, (((), r(2), r(1)), (a, None, r(2))))
        self.assertEqual(kept.twin().changes, kept.changes)
        kept.take(())
        self.assertEqual(kept.changes, ())

    def test_long_weights(self):
        # What is too long is told where it is asked for; the step itself is done.
        rng = random.Random(1402)
        model = long_model(rng, 64, "y ~ a + b + c + d + e + f")
        self.too_many(2000, lambda: Fit(model).weights)
        kept = KeptFit(model.table, model.formula)
        self.assertEqual((kept.changes, kept.steps), ((), 0))
        kept.drop(63)
        self.too_many(2000, lambda: kept.changes)
        self.assertEqual((kept.steps, len(kept)), (1, 63))
        kept.drop(62)
        self.assertEqual(kept.undo(many=2), 0)

    def test_terms(self):
        table = Table({"a": factor(2, (0, 1, 0, 1)), "b": factor(2, (0, 0, 1, 1)), "c": factor(2, (0, 1, 1, 0)), "y": numbers(1, 2, 4, 9)})
        kept = kept_of("y ~ a + b", table)
        kept.bring(("c",))
        self.assertEqual(str(kept.formula), "y ~ a + b + c")
        kept.take(("a",))
        kept.bring(("a",))
        # It need not stand where it stood; here the sums and the column that hangs differ.
        self.assertEqual(str(kept.formula), "y ~ b + c + a")
        kept.bring(("a", "b"))
        self.assertEqual(len(kept.model.names), 5)
        # A term whose pair another one has takes no columns away.
        kept.take(("a",))
        self.assertEqual((str(kept.formula), len(kept.model.names)), ("y ~ b + c + a:b", 5))
        kept.take(("a", "b"))
        self.assertEqual(len(kept.model.names), 3)
        for term in wrong_values() + [("y",), ("a", "y"), ("b", "a"), ("a", "a"), ("z",), ("a", "z"), ["a"], "a", ("in",), tuple("abcdefghijkl")]:
            if term not in ((), ("a",)):
                self.raises(InvalidFormula, kept.bring, term)
                self.raises(InvalidFormula, kept.take, term)
        self.raises(InvalidFormula, kept.bring, ())
        self.raises(InvalidFormula, kept.bring, ("b",))
        self.raises(InvalidFormula, kept.take, ("a",))
        self.raises(InvalidFormula, kept.take, ("b", "c"))
        self.assertEqual((kept.bring(("a", "b", "c")), kept.take(())), (None, None))
        self.assertEqual(str(kept.formula), "y ~ 0 + b + c + a:b:c")

    def test_sums_after_a_term_was_brought_again(self):
        table = Table({"a": factor(2, (0, 0, 1)), "b": factor(2, (0, 1, 1)), "y": numbers(1, 3, 5)})
        kept = kept_of("y ~ a + b", table)
        ahead = kept.fit.sums()
        kept.take(("a",))
        kept.bring(("a",))
        self.assertEqual(kept.formula.terms, ((), ("b",), ("a",)))
        self.assertEqual(kept.fit.sums(), Fit(Model(table, read_formula("y ~ b + a"))).sums())
        self.assertEqual(len(ahead), len(kept.fit.sums()))

    def test_ten_names_and_many_columns(self):
        names = "abcdefghij"
        table = Table({**{name: factor(2, (0, 1)) for name in names}, "y": numbers(1, 2)})
        kept = kept_of("y ~ a + b + c + d + e + f + g + h + i", table)
        self.too_many(9, kept.bring, ("j",))
        self.raises(InvalidFormula, kept.bring, tuple(names))
        self.too_many(24, kept.bring, ("a", "b", "c", "d", "e"))
        self.assertEqual((kept.steps, len(kept.model.names)), (0, 10))

    def test_codings(self):
        table = Table({"a": factor(3, (0, 1, 2)), "b": factor(2, (0, 1, 1)), "y": numbers(1, 2, 4)})
        kept = kept_of("y ~ a + b", table, b="steps", a="sum")
        self.assertEqual((kept.codings, list(kept.codings)), ({"a": "sum", "b": "steps"}, ["a", "b"]))
        self.assertEqual(kept.model, Model(table, read_formula("y ~ a + b"), codings={"a": "sum", "b": "steps"}))
        # Without the term its factor is none of the terms any more.
        self.raises(InvalidModel, kept.take, ("b",))
        kept.bring(("a", "b"))
        kept.take(("b",))
        self.assertEqual(kept.model.codings, {"a": "sum", "b": "steps"})
        self.assertNotEqual(kept, kept_of("y ~ a + b", table))
        given = {"a": "last"}
        other = KeptFit(table, read_formula("y ~ a + b"), codings=given)
        given["b"] = "sum"
        other.codings["a"] = "sum"
        self.assertEqual(other.codings, {"a": "last"})
        self.assertEqual(KeptFit(table, read_formula("y ~ a"), codings={}).codings, {})

    def test_rows(self):
        kept = kept_of()
        for value in wrong_values() + [
            {"a": 0}, {"y": r(1)}, {"a": 0, "y": r(1), "z": 0}, {"a": 2, "y": r(1)}, {"a": -1, "y": r(1)}, {"a": True, "y": r(1)}, {"a": "l0", "y": r(1)},
            {"a": 0, "y": 1}, {"a": r(1), "y": r(1)}, {"a": 0, "b": r(1)}, [("a", 0), ("y", r(1))], {"a": 0, "y": "1"}, {"a": 0, "y": False},
        ]:
            self.raises(InvalidOperation, kept.put, value)
        self.assertEqual((kept.steps, kept.put(row(None, None)), kept.put({"y": r(1), "a": 1})), (0, 2, 3))
        self.assertEqual(kept.table["a"].codes, (0, 1, None, 1))
        self.assertEqual(len(kept.model.kept), 3)
        self.too_many(6, kept.put, row(0, "1234567"))
        self.assertEqual((kept.put(row(0, "123456")), kept.drop(4)), (4, None))
        for value in wrong_values() + [4, 5, 6, -1]:
            if type(value) is not int or value not in kept.numbers:
                self.number(value, kept.drop, value)
        bare = KeptFit(Table({"y": Numbers(())}), read_formula("y ~ 1"))
        self.assertEqual((bare.put({"y": r(2)}), bare.fit.weights), (0, (r(2),)))
        self.raises(InvalidOperation, bare.put, {})

    def test_200_rows(self):
        table = Table({"y": Numbers((None,) * 199)})
        kept = KeptFit(table, read_formula("y ~ 1"))
        self.assertEqual((kept.put({"y": None}), len(kept)), (199, 200))
        self.too_many(200, kept.put, {"y": None})
        self.raises(InvalidOperation, kept.put, {"y": 1})
        self.too_many(200, kept.put, {"y": r("1234567")})
        kept.drop(0)
        self.assertEqual((kept.put({"y": r(1)}), kept.numbers[0], kept.numbers[-1]), (200, 1, 200))
        full = KeptFit(Table({"y": Numbers((r(1),) * 64)}), read_formula("y ~ 1"))
        self.too_many(64, full.put, {"y": r(1)})
        self.assertEqual(full.put({"y": None}), 64)

    def test_pledges(self):
        kept = kept_of()
        one, a = (), (("a", 1),)
        self.assertEqual((kept.pledge({a: r(1)}), kept.pledge({one: r(2), a: r("1/2")})), (0, 1))
        self.assertEqual(kept.pledges, ({a: r(1)}, {one: r(2), a: r("1/2")}))
        self.assertEqual(list(kept.pledges[1]), [one, a])
        kept.pledges[0][one] = r(5)
        self.assertEqual(kept.pledges[0], {a: r(1)})
        self.refused(("pledge", 0), kept.drop, 0)
        self.refused(("pledge", 0), kept.drop, 1)
        self.refused(("pledge", 0), kept.take, ("a",))
        self.assertEqual((kept.release(0), kept.pledges), (None, ({one: r(2), a: r("1/2")},)))
        self.refused(("pledge", 0), kept.drop, 1)
        kept.pledge({one: r(1)})
        self.refused(("pledge", 0), kept.drop, 1)
        kept.release(0)
        self.assertEqual((kept.drop(1), kept.numbers), (None, (0,)))
        kept.take(())
        self.assertEqual((kept.pledges, kept.undo()), (({one: r(1)},), 6))
        # Undoing and doing again are never rejected: behind them there is what was there before.
        self.assertEqual((kept.undo(many=5), kept.pledges), (1, ({a: r(1)},)))
        self.assertEqual((kept.undo(), kept.pledges, kept.drop(1), kept.undo(), kept.pledges), (0, (), None, 0, ()))

    def test_first_pledge_that_is_not_kept(self):
        table = Table({"a": factor(3, (0, 1, 2, 2)), "y": numbers(1, 2, 3, 4)})
        kept = kept_of("y ~ a", table)
        kept.pledge({(("a", 2),): r(1)})
        kept.pledge({(("a", 1),): r(1)})
        kept.pledge({(("a", 1),): r(1), (("a", 2),): r(-1)})
        self.refused(("pledge", 1), kept.drop, 1)
        kept.drop(3)
        self.refused(("pledge", 0), kept.drop, 2)
        kept.release(1)
        self.refused(("pledge", 1), kept.drop, 1)
        self.refused(("pledge", 0), kept.take, ("a",))
        kept.release(0)
        kept.release(0)
        self.assertEqual((kept.pledges, kept.drop(1)), ((), None))

    def test_wrong_pledges(self):
        kept = kept_of("y ~ a", Table({"a": factor(3, (0, 1)), "y": numbers(1, 2)}))
        one, b = (), (("a", 2),)
        for value in wrong_values() + [
            {}, {one: r(0)}, {one: 1}, {one: None}, {(("a", 0),): r(1)}, {(("a", 3),): r(1)}, {"a": r(1)}, {(("a", None),): r(1)}, {one: r(1), "z": r(1)},
            [(one, r(1))], {one: r(1), b: r(0)}, {(("b", 1),): r(1)}, {("a", 1): r(1)}, {(("a", True),): r(1)}, {0: r(1)}, {None: r(1)},
        ]:
            self.raises(InvalidOperation, kept.pledge, value)
        self.refused(("free",), kept.pledge, {b: r(1)})
        self.refused(("free",), kept.pledge, {one: r(1), b: r(1)})
        self.too_many(20, kept.pledge, {b: long_ratio(21)})
        self.too_many(20, kept.pledge, {one: long_ratio(1, 22)})
        self.assertEqual(kept.pledge({one: long_ratio(20)}), 0)
        self.raises(InvalidOperation, kept.pledge, {one: long_ratio(21), b: r(0)})
        for value in wrong_values() + [1, 2, -1]:
            if type(value) is not int or value != 0:
                self.number(value, kept.release, value)
        self.assertEqual((len(kept.pledges), kept.steps), (1, 1))

    def test_several_wrong_at_once(self):
        # Errors of the model come ahead of those of pledges.
        table = Table({"a": factor(3, (0, 1, 2)), "u": numbers(1, 2, 1234567), "y": numbers(1, 2, 3)})
        kept = kept_of("y ~ a", table, a="sum")
        kept.pledge({(("a", 0),): r(1)})
        self.raises(InvalidModel, kept.take, ("a",))
        self.too_many(6, kept.bring, ("u",))
        self.raises(InvalidOperation, kept.put, {"a": 5, "u": r(1), "y": r("1234567")})
        self.too_many(6, kept.put, {"a": 1, "u": r(1), "y": r("1234567")})
        self.assertEqual((kept.steps, len(kept.pledges)), (1, 1))

    def test_construction(self):
        formula = read_formula("y ~ a")
        self.all_rejected(InvalidTable, lambda value: KeptFit(value, None), [one for one in wrong_values() if isinstance(one, Table)])
        self.all_rejected(InvalidFormula, lambda value: KeptFit(DATA, value, codings=1))
        self.raises(InvalidFormula, KeptFit, DATA, read_formula("a"), codings=1)
        self.raises(InvalidFormula, KeptFit, DATA, read_formula("z"))
        for value in wrong_values() + [{"a": "none"}, {"a": 1}, {"z": "sum"}, {"y": "sum"}]:
            if value is not None and value != {}:
                self.raises(InvalidModel, KeptFit, DATA, formula, codings=value)
        self.unknown("z", KeptFit, DATA, read_formula("y ~ z"))
        self.unknown("z", KeptFit, DATA, read_formula("z ~ a"))
        self.raises(InvalidModel, KeptFit, DATA, read_formula("a ~ y"))
        self.too_many(64, KeptFit, Table({"y": Numbers((r(1),) * 65)}), read_formula("y ~ 1"))

    def test_equal(self):
        kept = kept_of()
        self.assertEqual(kept, kept_of())
        other = kept_of()
        other.put(row(1, 5))
        self.assertNotEqual(kept, other)
        kept.put(row(1, 5))
        self.assertEqual(kept, other)
        kept.pledge({(): r(1)})
        self.assertNotEqual(kept, other)
        kept.release(0)
        # Steps do not count, numbers do.
        self.assertEqual(kept, other)
        kept.drop(2)
        kept.put(row(1, 5))
        self.assertEqual(kept.table, other.table)
        self.assertNotEqual(kept, other)
        self.assertNotEqual(kept_of("y ~ a"), kept_of("y ~ 0 + a"))
        self.assertNotEqual(kept_of(), kept_of("y ~ a", Table({"a": factor(2, (0, 1)), "y": numbers(1, 4)})))
        self.assertNotEqual(kept_of(a="first"), kept_of())
        for value in wrong_values():
            self.assertFalse(kept == value)
            self.assertTrue(kept != value)

    def test_twins(self):
        kept = kept_of()
        kept.put(row(1, 5))
        kept.put(row(0, 2))
        kept.undo()
        twin = kept.twin()
        self.assertEqual(twin, kept)
        self.assertEqual((twin.steps, twin.redo(), twin.numbers), (1, 2, (0, 1, 2, 3)))
        self.assertEqual((kept.steps, kept.numbers), (1, (0, 1, 2)))
        # Both go on with their numbers.
        self.assertEqual((kept.put(row(1, 1)), twin.put(row(1, 1))), (4, 4))
        twin.pledge({(): r(1)})
        self.assertEqual((len(twin.pledges), len(kept.pledges)), (1, 0))
        self.assertEqual((twin.undo(many=4), kept.steps), (0, 2))
