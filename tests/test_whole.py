"""What holds over the whole program."""

import random

from tests.making import random_formula, random_table
from tests.support import Case, late_objects, r, wrong_values
from worthstead.code.judge import is_sound
from worthstead.code.making import compiled
from worthstead.desk.desk import Desk
from worthstead.desk.kept import KeptFit
from worthstead.errors import TooMany
from worthstead.exact.ratios import Ratio, is_ratio
from worthstead.exact.rows import is_rows, is_summed
from worthstead.exact.spaces import Space
from worthstead.fits.fits import Fit
from worthstead.fits.orders import is_hanging
from worthstead.fits.strata import Strata
from worthstead.formulas.counts import count_of
from worthstead.formulas.formulas import Formula
from worthstead.formulas.reader import read_formula
from worthstead.formulas.shadows import is_alike, is_parted
from worthstead.lang.reader import read_program
from worthstead.lang.runs import Run, outcome
from worthstead.lang.trees import is_expression, is_program
from worthstead.lang.writer import write_program
from worthstead.machine.machine import Machine
from worthstead.models.models import Model
from worthstead.models.told import is_told
from worthstead.plans.making import least
from worthstead.plans.plans import Plan
from worthstead.plans.words import is_word
from worthstead.tables.columns import Factor, Numbers
from worthstead.tables.tables import Table
from worthstead.tables.texts import write_table
from worthstead.trials.relabelings import Relabelings

DATA = Table({"a": Factor(("lo", "hi"), (0, 1)), "y": Numbers((Ratio(1), Ratio(3)))})
FORM = read_formula("y ~ a")
MODEL = Model(DATA, FORM)


def each_object():
    """One object of each class of the interface."""
    kinds = {"a": "factor"}
    return [
        Ratio(1), Space.whole(2), DATA["a"], DATA["y"], DATA, FORM, count_of(read_formula("a"), kinds), MODEL, Fit(MODEL),
        Strata(MODEL, ()), Plan(2, ("a", "b"), ()), *late_objects(),
    ]


class WholeTest(Case):
    def test_equality_accepts_every_value(self):
        values = wrong_values()
        for one in each_object():
            for value in values:
                self.assertIn(one == value, (True, False))
                self.assertIs(one != value, not one == value)
            self.assertTrue(one == one)
            self.assertFalse(one != one)

    def test_in_accepts_every_value(self):
        desk = Desk()
        for holder in (DATA, FORM, Space.whole(2), Plan(2, ("a", "b"), ()), desk):
            for value in wrong_values():
                self.assertIn(value in holder, (True, False))

    def test_iterated_over_where_a_section_says_so(self):
        iterable = {"Space", "Formula", "Plan", "Code"}
        for one in each_object():
            if type(one).__name__ in iterable:
                self.assertIsInstance(list(one), list)
            else:
                self.assertRaises(TypeError, iter, one)

    def test_judges_accept_every_value(self):
        rows = ((r(1), r(2)),)
        trial = Relabelings(("a", "b"), (0, 0))
        judges = [
            is_ratio, is_rows, lambda value: is_summed(rows, rows[0], value), lambda value: is_word(2, 2, value), is_program, is_expression,
            is_sound, trial.is_relabeling, lambda value: is_told(MODEL, rows[0], value), lambda value: is_hanging(MODEL, value),
            lambda value: is_parted(FORM, FORM, {"a": "factor"}, value), lambda value: Strata(MODEL, ()).is_unbalanced(value),
            lambda value: Strata(MODEL, ()).is_share((), value), lambda value: Strata(MODEL, ()).is_told_in(0, rows[0], value),
        ]
        for judge in judges:
            for value in wrong_values():
                self.assertIn(judge(value), (True, False))
                self.assertIsInstance(judge(value), bool)

    def test_equal_calls_return_equal_results(self):
        made = read_program('f <- fun(x) { print(x); x }; f(2) + f(3); g')
        self.assertEqual(outcome(made), outcome(made))
        self.assertEqual(compiled(made), compiled(made))
        one, other = Machine(compiled(made)), Machine(compiled(made))
        one.run_on(most=20)
        other.run_on(most=20)
        self.assertEqual(one.frozen(), other.frozen())
        self.assertEqual(read_program(write_program(made)), made)


class ThingsOfProgramsTest(Case):
    """Plans, tables, models and fits of programs are those of the package's own functions."""

    def text_of_program(self, table, formula, other):
        told = write_table(table).replace("\n", ";")
        right = str(formula) if formula.response else f"~ {formula}"
        return "\n".join([
            f't <- table("{told}")', f"f <- ({right})", f"g <- (~ {other})", "m <- model(t, f)", "x <- fit(m)", "print(t)", "print(m)",
            "print(columns(m))", "print(rank(m))", "print(left(x))",
            *[f"print(adds(x, {at}))" for at in range(len(formula) + 1)], "print(count(g, t))", "print(alike(f, g, t))",
            "print(rows(t$a))",
        ])

    def expected(self, table, formula, other):
        model = Model(table, formula)
        fit = Fit(model)
        levels = {name: len(table[name].levels) for name in table.names if table.kinds[name] == "factor"}
        return tuple([
            str(table), f"model of {len(model)} columns", str(len(model)), str(len(model.space)), str(fit.left), *[str(one) for one in fit.sums()],
            str(count_of(other, table.kinds)(levels)), "TRUE" if is_alike(formula, other, table.kinds) else "FALSE", str(len(table)),
        ])

    def test_by_chance(self):
        rng = random.Random(1501)
        done = 0
        while done < 25:
            table = random_table(rng, rng.randint(1, 7), number_names="uy", lacking=0.1)
            formula, other = random_formula(rng, ["a", "b", "u"], 2, "y"), random_formula(rng, ["a", "b", "u"], 2)
            text = self.text_of_program(table, formula, other)
            if len(write_table(table)) > 400:
                continue
            try:
                expected = self.expected(table, formula, other)
            except TooMany:
                continue
            done += 1
            made = read_program(text)
            self.assertEqual(outcome(made)[:2], (("done", str(len(table))), expected))
            run = Run(made)
            while run.advance(many=rng.randint(1, 4)):
                pass
            self.assertEqual(run.lines, expected)
            machine = Machine(compiled(made))
            while machine.step():
                if rng.random() < 0.5:
                    machine = Machine.thawed(machine.code, machine.frozen())
            self.assertEqual((machine.lines, machine.end, machine.steps), (expected, run.end, run.steps))

    def test_plans(self):
        plan = least(2, tuple("abcd"), ((1, 0, 0, 0), (0, 1, 0, 0), (0, 0, 1, 0), (0, 0, 0, 1)))
        words = " ".join("".join(str(entry) for entry in word) for word, _ in plan.rows)
        made = read_program(f'p <- plan(2, "a b c d", "{words}"); print(p); t <- runs(p); print(t); m <- model(t, (~ a + b + c + d)); print(rank(m)); p')
        machine = Machine(compiled(made))
        while machine.step():
            machine = Machine.thawed(machine.code, machine.frozen())
        rank = len(Model(plan.as_table(), read_formula("a + b + c + d")).space)
        self.assertEqual((machine.lines, machine.end), ((str(plan), str(plan.as_table()), str(rank)), ("done", str(plan))))


class FalseStatementsTest(Case):
    def test_a_caught_fault_undoes_nothing(self):
        end, lines, steps = outcome(read_program('x <- 1; try({ x <- 2; print("a"); stop("") }, fun(w, t) GONE); x'))
        self.assertEqual((end, lines, steps), (("done", "2"), ("a",), 21))

    def test_taking_out_a_term_need_not_take_columns(self):
        kept = KeptFit(DATA, read_formula("y ~ 1 + a"))
        kept.take(())
        self.assertEqual((len(kept.model), kept.changes), (2, ()))
        kept = KeptFit(DATA, Formula((("a",),), response="y"))
        self.assertEqual(len(kept.model), 2)
