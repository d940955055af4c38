"""Stage 7: fits."""

import itertools
import random
from fractions import Fraction

from tests.linear import as_fractions, less, orthogonal, part, product, rests, square
from tests.making import factor, long_model, model_of, numbers, random_formula, random_table, table_of
from tests.support import Case, fraction, r, row, texts, wrong_values
from worthstead.errors import InvalidModel, InvalidOperation, Refused
from worthstead.exact.ratios import Ratio, total
from worthstead.fits.fits import Fit
from worthstead.formulas.reader import read_formula
from worthstead.formulas.shadows import is_alike
from worthstead.models.codings import CODINGS
from worthstead.models.leading import leading
from worthstead.models.models import Model
from worthstead.models.told import hanging, told
from worthstead.tables.tables import Table

LITTLE = table_of("factor a p,q p p q q", "factor b r,s r s s s", "number u 1 2 3 4", "number y 1 3 5 4")


def columns_of(model, places=None):
    chosen = range(len(model)) if places is None else places
    return [[fraction(line[at]) for line in model.rows] for at in chosen]


def span(model, term):
    """Rows of fractions that span V(t)."""
    return as_fractions(tuple(model.span_of(term)))


def random_fits(seed, many, most=9):
    rng = random.Random(seed)
    for _ in range(many):
        table = random_table(rng, rng.randint(0, most), lacking=0.05, bottom=2)
        yield rng, Model(table, random_formula(rng, list("abuv"), 3, response="y"))


def slow_sums(model, order):
    side = as_fractions([model.response])[0]
    behind, found = [], []
    for term in order:
        added = rests(span(model, term), behind)
        found.append(square(part(added, side)))
        behind = behind + span(model, term)
    return found + [square(less(side, part(orthogonal(behind), side)))]


class FitTest(Case):
    def test_by_chance(self):
        for _, model in random_fits(71, 60):
            fit = Fit(model)
            side = as_fractions([model.response])[0]
            columns = columns_of(model)
            nearest = part(orthogonal(columns), side)
            weights, fitted, left_over = as_fractions([fit.weights, fit.fitted, fit.rests])
            self.assertEqual(fitted, nearest)
            self.assertEqual(left_over, less(side, nearest))
            self.assertEqual(len(weights), len(model))
            made = [sum((w * column[at] for w, column in zip(weights, columns)), Fraction(0)) for at in range(len(side))]
            self.assertEqual(made, fitted)
            self.assertTrue(all(weights[at] == 0 for at in hanging(model)))
            self.assertEqual([product(column, left_over) for column in columns], [0] * len(columns))
            self.assertEqual((fraction(fit.total), fraction(fit.left)), (square(side), square(left_over)))
            self.assertEqual(fit.model, model)

    def test_no_weights_leave_less(self):
        for rng, model in random_fits(72, 20):
            fit = Fit(model)
            for _ in range(5):
                other = tuple(one + Ratio(rng.randint(-2, 2), 3) for one in fit.weights)
                made = [total(tuple(one * two for one, two in zip(other, line))) for line in model.rows]
                left_over = total(tuple((one - two) * (one - two) for one, two in zip(model.response, made)))
                self.assertFalse(left_over.is_less(fit.left))

    def test_small_ones(self):
        fit = Fit(model_of(LITTLE, "y ~ a"))
        self.assertEqual(texts([fit.weights, fit.fitted, fit.rests]), [
            ["2", "5/2"], ["2", "2", "9/2", "9/2"], ["-1", "1", "1/2", "-1/2"],
        ])
        self.assertEqual(texts([fit.total, fit.left]), ["51", "5/2"])
        self.assertEqual(str(fit), "fit of 2 columns to 4 rows")
        bare = Fit(model_of(LITTLE, "y ~ 0"))
        self.assertEqual((bare.weights, bare.fitted, bare.rests), ((), row("0 0 0 0"), row("1 3 5 4")))
        self.assertEqual(texts([bare.total, bare.left]), ["51", "51"])
        self.assertEqual((bare.sums(), bare.behind_sums()), ((r(51),), (r(51),)))
        self.assertEqual(str(bare), "fit of 0 columns to 4 rows")

    def test_hanging_columns(self):
        table = table_of("number u 1 2 3", "number v 2 4 6", "number y 1 0 2")
        fit = Fit(model_of(table, "y ~ u + v"))
        self.assertEqual(fit.weights[2], r(0))
        self.assertEqual(fit.fitted, Fit(model_of(table, "y ~ u")).fitted)
        self.assertEqual(texts(fit.sums())[2], "0")

    def test_without_kept_rows(self):
        fit = Fit(model_of(LITTLE.picked(()), "y ~ a*u"))
        self.assertEqual((fit.weights, fit.fitted, fit.rests), (row("0 0 0 0"), (), ()))
        self.assertEqual((fit.total, fit.left), (r(0), r(0)))
        self.assertEqual(fit.sums(), row("0 0 0 0 0"))
        self.assertEqual(fit.behind_sums(), row("0 0 0 0 0"))
        self.assertEqual(str(fit), "fit of 4 columns to 0 rows")
        self.refused_free(fit, {"a": 0, "u": r(3)})

    def refused_free(self, fit, worths):
        caught = self.raises(Refused, fit.foretold, worths)
        self.assertEqual(caught.reason, told(fit.model, fit.model.row_for(worths)))
        self.assertEqual(caught.reason[0], "free")

    def test_responses_in_the_space_and_square_to_it(self):
        within = table_of("number u 1 2 3 5", "number y 5 7 9 13")
        fit = Fit(model_of(within, "y ~ u"))
        self.assertEqual((fit.weights, fit.rests, fit.left), (row("3 2"), row("0 0 0 0"), r(0)))
        apart = table_of("factor a p,q p p q q", "number y 1 -1 2 -2")
        fit = Fit(model_of(apart, "y ~ a"))
        self.assertEqual((fit.weights, fit.fitted, fit.left), (row("0 0"), row("0 0 0 0"), r(10)))
        self.assertEqual(fit.sums(), row("0 0 10"))

    def test_the_same_for_all_codings(self):
        for rng, model in random_fits(73, 25):
            fit = Fit(model)
            codings = {name: rng.choice(CODINGS) for name in model.levels}
            other = Fit(Model(model.table, model.formula, codings=codings))
            self.assertEqual((fit.fitted, fit.rests, fit.total, fit.left), (other.fitted, other.rests, other.total, other.left))
            self.assertEqual((fit.sums(), fit.behind_sums()), (other.sums(), other.behind_sums()))
            led = tuple(
                total(tuple(one * two for one, two in zip(fit.weights, line))) for line in leading(model, codings)[0]
            )
            made = tuple(total(tuple(one * two for one, two in zip(led, line))) for line in other.model.rows)
            self.assertEqual(made, fit.fitted)
            if not hanging(model):
                self.assertEqual(led, other.weights)

    def test_the_same_for_alike_formulas(self):
        one, other = read_formula("y ~ 0 + a:b + u"), read_formula("y ~ b*a + u")
        self.assertTrue(is_alike(one, other, LITTLE.kinds))
        left, right = Fit(Model(LITTLE, one)), Fit(Model(LITTLE, other))
        self.assertEqual((left.fitted, left.rests, left.total, left.left), (right.fitted, right.rests, right.total, right.left))
        # But they have other sums by terms: these tell how the fitted values are put together.
        self.assertNotEqual(set(texts(left.sums())), set(texts(right.sums())))

    def test_foretold(self):
        free = 0
        for rng, model in random_fits(74, 60):
            fit = Fit(model)
            worths = {name: rng.randrange(total) for name, total in model.levels.items()}
            for name in model.kinds:
                worths.setdefault(name, Ratio(rng.randint(-3, 3), 2))
            combination = model.row_for(worths)
            if told(model, combination)[0] == "free":
                free += 1
                self.refused_free(fit, worths)
                continue
            wanted = total(tuple(one * two for one, two in zip(combination, fit.weights)))
            self.assertEqual(fit.foretold(worths), wanted)
            # All weights that leave the same rests foretell the same.
            for at, multiples in hanging(model).items():
                base = [place for place in range(len(model)) if place not in hanging(model)]
                other = list(fit.weights)
                other[at] = other[at] + Ratio(1)
                for place, one in zip(base, multiples):
                    other[place] = other[place] - one
                self.assertEqual(total(tuple(one * two for one, two in zip(combination, other))), wanted)
        self.assertGreater(free, 5)

    def test_foretold_is_free(self):
        table = table_of("factor a p,q,s p p q", "number y 1 3 7")
        fit = Fit(model_of(table, "y ~ a"))
        self.assertEqual([texts(fit.foretold({"a": level})) for level in (0, 1)], ["2", "7"])
        self.refused(("free", row("0 0 1")), fit.foretold, {"a": 2})
        self.raises(InvalidModel, fit.foretold, {"a": 3})
        self.raises(InvalidModel, fit.foretold, None)
        numbered = Fit(model_of(table_of("number u 1 2", "number y 2 4"), "y ~ u"))
        self.assertEqual(numbered.foretold({"u": r(9)}), r(18))
        self.too_many(6, numbered.foretold, {"u": r(1000000)})
        wide = Fit(model_of(Table({name: numbers(1) for name in "uvwxy"}), "y ~ 0 + u:v:w:x"))
        self.too_many(20, wide.foretold, {name: r(999999) for name in "uvwx"})

    def test_equal(self):
        fit = Fit(model_of(LITTLE, "y ~ a"))
        self.assertEqual(fit, Fit(model_of(LITTLE, "y ~ a", a="first")))
        for other in (model_of(LITTLE, "y ~ a", a="sum"), model_of(LITTLE, "u ~ a"), model_of(LITTLE.picked((0,)), "y ~ a")):
            self.assertNotEqual(fit, Fit(other))
        for value in wrong_values() + [fit.model]:
            self.assertFalse(fit == value)
        self.assertRaises(TypeError, iter, fit)

    def test_wrong_arguments(self):
        self.all_rejected(InvalidModel, Fit)
        self.refused(("response",), Fit, model_of(LITTLE, "a"))


class SumsTest(Case):
    def test_each_order_by_chance(self):
        for rng, model in random_fits(75, 40, most=7):
            fit = Fit(model)
            terms = model.formula.terms
            self.assertEqual(as_fractions([fit.sums()])[0], slow_sums(model, terms))
            orders = list(itertools.permutations(terms))
            for order in rng.sample(orders, min(6, len(orders))):
                found = fit.sums(order=order)
                self.assertEqual(as_fractions([found])[0], slow_sums(model, order))
                self.assertEqual(total(found), fit.total)
                self.assertEqual(found[-1], fit.left)

    def test_unfair_orders(self):
        fit = Fit(model_of(LITTLE, "y ~ a"))
        self.assertEqual(texts(fit.sums()), ["169/4", "25/4", "5/2"])
        self.assertEqual(texts(fit.sums(order=(("a",), ()))), ["97/2", "0", "5/2"])

    def test_wrong_orders(self):
        fit = Fit(model_of(LITTLE, "y ~ a + b"))
        self.all_rejected(InvalidOperation, lambda one: fit.sums(order=one), right=(None,))
        for wrong in (
            ((), ("a",)), ((), ("a",), ("a",)), ((), ("a",), ("b",), ("b",)), [(), ("a",), ("b",)], ((), ("a",), ("c",)),
            ((), ("a",), ["b"]), ((), "a", "b"),
        ):
            self.raises(InvalidOperation, fit.sums, order=wrong)
        self.assertEqual(fit.sums(order=((), ("a",), ("b",))), fit.sums())

    def test_behind_sums_by_chance(self):
        for _, model in random_fits(76, 50):
            fit = Fit(model)
            side = as_fractions([model.response])[0]
            found = []
            for term in model.formula.terms:
                behind = []
                for other in model.formula.terms:
                    if other != term and not holds(model, other, term):
                        behind += span(model, other)
                found.append(square(part(rests(span(model, term), behind), side)))
            self.assertEqual(as_fractions([fit.behind_sums()])[0], found + [fraction(fit.left)])

    def test_without_the_constant(self):
        table = table_of("factor a p,q p q q", "number u 1 2 4", "number y 1 2 2")
        fit = Fit(model_of(table, "y ~ 0 + u + a"))
        self.assertEqual(texts(fit.sums()), ["169/21", "20/21", "0"])


def holds(model, one, other):
    """Whether the one term holds the other."""
    kinds = model.kinds
    parts = [[{name for name in term if kinds[name] == kind} for kind in ("number", "factor")] for term in (one, other)]
    return one != other and (other == () or (parts[0][0] == parts[1][0] and parts[1][1] <= parts[0][1]))


class LongTest(Case):
    """Results with more than 2000 digits, and shorter ones beside them."""

    def test_long_results(self):
        fit = Fit(long_model(random.Random(77), 64, "y ~ a*b*c"))
        for name in ("weights", "fitted", "rests", "left"):
            self.too_many(2000, lambda one=name: getattr(fit, one))
        self.too_many(2000, fit.sums)
        self.too_many(2000, fit.behind_sums)
        self.too_many(2000, fit.foretold, {"a": r(1), "b": r(2), "c": r(3)})
        self.assertLess(len(str(fit.total)), 2000)

    def test_short_results_of_long_numbers(self):
        long = long_model(random.Random(78), 40, "y ~ 0 + a*b*c")
        columns = long.table.columns
        # The response lies in the space: what is left is 0, though the columns are long.
        fit = Fit(Model(Table({**columns, "y": columns["a"]}), long.formula))
        place = long.names.index((("a", None),))
        self.assertEqual(fit.weights, tuple(r(int(at == place)) for at in range(len(long))))
        self.assertEqual((fit.fitted, fit.left, texts(fit.rests)), (columns["a"].ratios, r(0), ["0"] * 40))
        self.assertEqual(fit.foretold({"a": r("1/3"), "b": r(1), "c": r(1)}), r("1/3"))
        zero = Fit(Model(Table({**columns, "y": numbers(*[0] * 40)}), long.formula))
        self.assertEqual(texts(zero.sums()), ["0"] * (len(zero.model.formula) + 1))
        self.assertEqual(texts(zero.behind_sums()), ["0"] * (len(zero.model.formula) + 1))

    def test_as_many_rows_as_columns(self):
        long = long_model(random.Random(79), 8, "y ~ a*b*c")
        fit = Fit(long)
        self.assertEqual((fit.fitted, fit.left), (long.response, r(0)))
        self.assertEqual(len(fit.weights), 8)

    def test_many_rows_and_columns(self):
        rng = random.Random(80)
        lines = [(rng.randrange(2), rng.randrange(3), rng.randrange(4)) for _ in range(64)]
        table = Table({
            "a": factor(2, [one[0] for one in lines]), "b": factor(3, [one[1] for one in lines]),
            "c": factor(4, [one[2] for one in lines]), "y": numbers(*[rng.randint(-999999, 999999) for _ in lines]),
        })
        fit = Fit(model_of(table, "y ~ a*b*c"))
        means = {}
        for line, y in zip(lines, table["y"].ratios):
            means.setdefault(line, []).append(fraction(y))
        wanted = [sum(means[line]) / len(means[line]) for line in lines]
        self.assertEqual(as_fractions([fit.fitted])[0], wanted)
        self.assertEqual(total(fit.sums()), fit.total)
