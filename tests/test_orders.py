"""Stage 7: fair orders, own parts, late spaces, and idle models."""

import itertools
import random

from tests.linear import as_fractions, as_space, part, product, rests, square
from tests.making import factor, long_model, model_of, numbers, random_formula, random_table, table_of
from tests.support import Case, row, rows, wrong_values
from tests.test_fits import holds, slow_sums, span
from worthstead.errors import InvalidFormula, InvalidModel, InvalidOperation
from worthstead.exact.ratios import Ratio, total
from worthstead.exact.spaces import Space
from worthstead.fits.fits import Fit
from worthstead.fits.orders import fair_orders, idle, is_fair, is_hanging, is_held, late_space, own_part
from worthstead.formulas.formulas import Formula
from worthstead.formulas.reader import read_formula
from worthstead.models.models import Model
from worthstead.tables.columns import Numbers
from worthstead.tables.tables import Table

LITTLE = table_of("factor a p,q p p q q", "factor b r,s r s s s", "number u 1 2 3 4", "number y 1 3 5 4")
KINDS = {"a": "factor", "b": "factor", "u": "number", "v": "number"}


def random_models(seed, many, most=8, names="abuv"):
    rng = random.Random(seed)
    for _ in range(many):
        table = random_table(rng, rng.randint(0, most), bottom=2)
        yield rng, Model(table, random_formula(rng, list(names), 3, response=rng.choice((None, "y"))))


def slow_rests(model, term, others):
    return rests(span(model, term), [one for other in others for one in span(model, other)])


def slow_own(model, term):
    return slow_rests(model, term, [one for one in model.formula.terms if holds(model, term, one)])


def is_fair_by_rule(model, order):
    return all(
        order.index(one) > order.index(other)
        for one, other in itertools.permutations(order, 2) if holds(model, one, other)
    )


def with_response(model, ratios):
    """The same model with another response."""
    columns = {**model.table.columns, "y": Numbers(tuple(ratios))}
    return Model(Table(columns), Formula(model.formula.terms, response="y"))


class HeldTest(Case):
    def test_terms(self):
        formula = read_formula("a + b + a:b + u + u:a + u:v + u:a:b")
        held = [
            (one, other) for one in formula.terms for other in formula.terms if is_held(formula, KINDS, one, other)
        ]
        wanted = [((), other) for other in formula.terms if other]
        wanted += [(("a",), ("a", "b")), (("b",), ("a", "b")), (("u",), ("a", "u")), (("u",), ("a", "b", "u"))]
        wanted += [(("a", "u"), ("a", "b", "u"))]
        self.assertEqual(sorted(held), sorted(wanted))

    def test_wrong_arguments(self):
        formula = read_formula("y ~ a + u")
        self.all_rejected(InvalidFormula, lambda one: is_held(one, {}, 3, 3), right=(Formula(()), Formula(((), ("a",)))))
        self.all_rejected(InvalidFormula, lambda one: is_held(formula, one, 3, 3), right=({}, {"a": "factor"}))
        self.unknown("a", is_held, formula, {}, 3, 3)
        self.unknown("u", is_held, formula, {"a": "factor"}, 3, 3)
        for value in wrong_values() + [("b",), ("a", "u")]:
            if value != () and value != ("a",):
                self.unknown(value, is_held, formula, KINDS, value, 5)
                self.unknown(value, is_held, formula, KINDS, (), value)
        self.assertTrue(is_held(formula, KINDS, (), ("a",)))
        self.assertFalse(is_held(formula, KINDS, ("a",), ("a",)))


class SpacesTest(Case):
    def test_by_chance(self):
        for _, model in random_models(81, 50):
            width = len(model.kept)
            terms = model.formula.terms
            for term in terms:
                own, late = own_part(model, term), late_space(model, term)
                self.assertEqual(own, as_space(slow_own(model, term), width))
                others = [one for one in terms if one != term and not holds(model, one, term)]
                self.assertEqual(late, as_space(slow_rests(model, term, others), width))
                # The same with the spaces of stage 2.
                ahead = Space(width, ())
                for other in [one for one in terms if holds(model, term, one)]:
                    ahead = ahead + model.span_of(other)
                self.assertEqual(own, model.span_of(term).behind(ahead))

    def test_own_part_need_not_lie_within(self):
        model = model_of(LITTLE, "u")
        self.assertFalse(own_part(model, ("u",)).is_within(model.span_of(("u",))))
        self.assertEqual(own_part(model, ("u",)), Space(4, rows("-3 -1 1 3")))
        self.assertEqual(own_part(model_of(LITTLE, "0 + u"), ("u",)), Space(4, rows("1 2 3 4")))
        # Terms that are not in the formula do not count, also if they are in the shadow.
        self.assertEqual(len(own_part(model_of(LITTLE, "0 + a:b"), ("a", "b"))), 3)
        self.assertEqual(len(own_part(model_of(LITTLE, "0 + a + a:b"), ("a", "b"))), 1)

    def test_fewest_dimensions_are_those_of_the_late_space(self):
        for _, model in random_models(82, 25, most=6):
            for order in itertools.permutations(model.formula.terms):
                if not is_fair_by_rule(model, order):
                    continue
                for at, term in enumerate(order):
                    added = slow_rests(model, term, order[:at])
                    self.assertGreaterEqual(len(added), len(late_space(model, term)))

    def test_without_kept_rows(self):
        model = model_of(LITTLE.picked(()), "a*u")
        for term in model.formula.terms:
            self.assertEqual((own_part(model, term), late_space(model, term)), (Space(0, ()), Space(0, ())))
        self.assertEqual(idle(model), ("idle",))

    def test_wrong_arguments(self):
        model = model_of(LITTLE, "y ~ a")
        for call in (own_part, late_space):
            self.all_rejected(InvalidModel, lambda one: call(one, 3))
            for value in wrong_values() + [("b",), ("y",)]:
                if value != () and value != ("a",):
                    self.unknown(value, call, model, value)

    def test_long_spaces(self):
        long = long_model(random.Random(83), 64, "(a + b + c + d + e)^2")
        self.too_many(2000, late_space, long, ("a",))
        self.too_many(2000, late_space, long, ("a", "b"))
        self.assertEqual(len(own_part(long, ("a", "b"))), 1)
        # The own part of a term of factors that holds nothing is as short as its columns.
        table = Table({**long.table.columns, "f": factor(2, [0, 1] * 32)})
        both = Model(table, read_formula("0 + f + f:a + f:b + f:a:b + f:c + f:d"))
        self.assertEqual(own_part(both, ("f",)), both.span_of(("f",)))


class OrdersTest(Case):
    def test_by_chance(self):
        for _, model in random_models(84, 40):
            terms = model.formula.terms
            wanted = [order for order in itertools.permutations(terms) if is_fair_by_rule(model, order)]
            for order in itertools.permutations(terms):
                self.assertEqual(is_fair(model, order), order in wanted)
            if len(wanted) > 24:
                self.too_many(24, fair_orders, model)
            else:
                self.assertEqual(fair_orders(model), tuple(wanted))

    def test_twenty_four(self):
        table = Table({name: factor(2, (0, 1)) for name in "abcde"})
        self.assertEqual(len(fair_orders(model_of(table, "a + b + c + d"))), 24)
        self.too_many(24, fair_orders, model_of(table, "a + b + c + d + e"))
        self.too_many(24, fair_orders, model_of(table, "0 + a + b + c + d + e"))
        self.assertEqual(len(fair_orders(model_of(table, "0 + a + b + a:b + c"))), 8)
        self.assertEqual(fair_orders(model_of(table, "0")), ((),))
        self.assertTrue(is_fair(model_of(table, "0"), ()))
        self.assertEqual(fair_orders(model_of(table, "1")), (((),),))
        self.assertEqual(
            fair_orders(model_of(table, "b + a")), (((), ("b",), ("a",)), ((), ("a",), ("b",)))
        )

    def test_wrong_arguments(self):
        model = model_of(LITTLE, "a + b")
        self.all_rejected(InvalidModel, fair_orders)
        self.all_rejected(InvalidModel, lambda one: is_fair(one, 3))
        self.all_rejected(InvalidOperation, lambda one: is_fair(model, one))
        for wrong in (((), ("a",)), ((), ("a",), ("a",)), ((), ("a",), ("c",)), [(), ("a",), ("b",)]):
            self.raises(InvalidOperation, is_fair, model, wrong)
        self.assertFalse(is_fair(model, (("a",), (), ("b",))))


class IdleTest(Case):
    def check_certificate(self, model, value):
        word, one, other, vector, first, second = value
        self.assertEqual(word, "hangs")
        self.assertTrue(is_fair_by_rule(model, first) and is_fair_by_rule(model, second))
        at = first.index(one)
        self.assertEqual((first[at + 1], second), (other, first[:at] + (other, one) + first[at + 2:]))
        side = as_fractions([vector])[0]
        self.assertEqual(part(slow_own(model, one), side), side)
        asked = with_response(model, vector)
        before, behind = slow_sums(asked, first)[at], slow_sums(asked, second)[at + 1]
        self.assertGreater(before, behind)

    def test_by_chance(self):
        words = set()
        for rng, model in random_models(85, 70):
            terms = model.formula.terms
            owns = [slow_own(model, term) for term in terms]
            is_idle = not any(
                product(one, other) for left, right in itertools.combinations(owns, 2) for one in left for other in right
            )
            found = idle(model)
            words.add(found[0])
            self.assertEqual(found[0], "idle" if is_idle else "hangs")
            self.assertEqual(is_hanging(model, found), not is_idle)
            if not is_idle:
                self.check_certificate(model, found)
                continue
            # In an idle model each term adds its own part in each fair order, for every response.
            asked = with_response(model, [Ratio(rng.randint(-5, 5)) for _ in model.kept])
            side = as_fractions([asked.response])[0]
            wanted = {term: square(part(own, side)) for term, own in zip(terms, owns)}
            for order in itertools.islice(itertools.permutations(terms), 60):
                if is_fair_by_rule(model, order):
                    self.assertEqual(as_fractions([Fit(asked).sums(order=order)])[0][:-1], [wanted[t] for t in order])
        self.assertEqual(words, {"idle", "hangs"})

    def test_late_sums_add_up_if_idle(self):
        for _, model in random_models(86, 40):
            if model.response is not None and idle(model) == ("idle",):
                fit = Fit(model)
                self.assertEqual(total(fit.behind_sums()), fit.total)
        hangs = Fit(model_of(LITTLE, "y ~ a + b"))
        self.assertNotEqual(total(hangs.behind_sums()), hangs.total)

    def test_response_has_no_effect(self):
        one, other = idle(model_of(LITTLE, "y ~ a + b")), idle(model_of(LITTLE, "a + b"))
        self.assertEqual(one, other)
        self.assertTrue(is_hanging(model_of(LITTLE, "y ~ a + b"), other))

    def test_counts_in_cells(self):
        rng = random.Random(87)
        seen = set()
        for _ in range(60):
            counts = [[rng.randint(0, 3) for _ in range(3)] for _ in range(2)]
            if rng.random() < 0.5:
                left, right = [rng.randint(0, 2) for _ in range(2)], [rng.randint(0, 2) for _ in range(3)]
                counts = [[one * other for other in right] for one in left]
            lines = [(a, b) for a in range(2) for b in range(3) for _ in range(counts[a][b])]
            rng.shuffle(lines)
            table = Table({"a": factor(2, [a for a, _ in lines]), "b": factor(3, [b for _, b in lines])})
            fair = all(
                counts[a][b] * len(lines) == sum(counts[a]) * sum(line[b] for line in counts)
                for a in range(2) for b in range(3)
            )
            seen.add(fair)
            self.assertEqual(idle(model_of(table, "1 + a + b")) == ("idle",), fair)
        self.assertEqual(seen, {True, False})

    def test_other_certificates(self):
        model = model_of(LITTLE, "a + b")
        orders = (((), ("a",), ("b",)), ((), ("b",), ("a",)))
        self.assertTrue(is_hanging(model, ("hangs", ("a",), ("b",), row("1 1 -1 -1")) + orders))
        self.assertTrue(is_hanging(model, ("hangs", ("a",), ("b",), row("-3 -3 3 3")) + orders))
        self.assertTrue(is_hanging(model, ("hangs", ("b",), ("a",), row("3 -1 -1 -1")) + orders[::-1]))
        for wrong in (
            ("hangs", ("b",), ("a",), row("3 -1 -1 -1")) + orders,
            ("hangs", ("a",), ("b",), row("1 1 -1 -1")) + orders[::-1],
            ("hangs", ("a",), ("b",), row("0 0 0 0")) + orders,
            ("hangs", ("a",), ("b",), row("2 2 -1 -1")) + orders,
            ("hangs", ("a",), ("b",), row("1 -1 1 -1")) + orders,
            ("hangs", ("a",), ("b",), (1, 1, -1, -1)) + orders,
            ("hangs", ("a",), ("b",), list(row("1 1 -1 -1"))) + orders,
            ("hangs", ("a",), ("b",), row("1 1 -1")) + orders,
            ("hangs", ("a",), ("b",), row("1 1 -1 -1 0")) + orders,
            ("hangs", ("a",), ("b",), row("1 1 -1 -1"), orders[0], orders[0]),
            ("hangs", ("a",), ("b",), row("1 1 -1 -1"), (("a",), ("b",), ()), (("b",), ("a",), ())),
            ("hangs", ("a",), ("c",), row("1 1 -1 -1")) + orders,
            ("hangs", (), ("a",), row("1 1 1 1"), ((), ("a",), ("b",)), (("a",), (), ("b",))),
            ("hang", ("a",), ("b",), row("1 1 -1 -1")) + orders,
            ("hangs", ("a",), ("b",), row("1 1 -1 -1")),
            ["hangs", ("a",), ("b",), row("1 1 -1 -1"), *orders],
            ("hangs", ["a"], ("b",), row("1 1 -1 -1")) + orders,
            ("hangs", ("a",), ("b",), row("1 1 -1 -1"), list(orders[0]), orders[1]),
            ("idle",),
        ):
            self.assertFalse(is_hanging(model, wrong), wrong)
        self.assertTrue(is_hanging(model, ("hangs", ("a",), ("b",), row("1 1 -1 -1"), orders[0], orders[1])))

    def test_neighbours(self):
        model = model_of(LITTLE, "a + b + u")
        one = ("hangs", ("a",), ("b",), row("1 1 -1 -1"))
        first, second = ((), ("a",), ("b",), ("u",)), ((), ("b",), ("a",), ("u",))
        self.assertTrue(is_hanging(model, one + (first, second)))
        late = (((), ("u",), ("a",), ("b",)), ((), ("u",), ("b",), ("a",)))
        self.assertTrue(is_hanging(model, one + late))
        # The two terms do not stand side by side.
        self.assertFalse(is_hanging(model, one + (((), ("a",), ("u",), ("b",)), ((), ("b",), ("u",), ("a",)))))
        self.assertFalse(is_hanging(model, one + (first, late[1])))
        self.assertFalse(is_hanging(model, one + (first, ((), ("b",), ("u",), ("a",)))))

    def test_terms_with_few_names_first(self):
        # The own parts of a:b and b:c are not square here, but a certificate for them is not made in this way.
        table = Table({"a": factor(2, (1, 0, 1, 0, 0)), "b": factor(2, (1, 0, 0, 1, 0)), "c": factor(2, (1, 1, 0, 0, 1))})
        model = model_of(table, "a*b + b*c")
        self.check_certificate(model, idle(model))
        self.assertTrue(is_hanging(model, idle(model)))
        rng = random.Random(89)
        for _ in range(40):
            table = random_table(rng, rng.randint(3, 9), number_names="")
            model = model_of(table, rng.choice(("a*b + b*c", "a*b*c", "a:b + c + b", "0 + a + b*c", "(a + b + c)^2")))
            if idle(model) != ("idle",):
                self.check_certificate(model, idle(model))

    def test_only_for_this_model(self):
        fair = table_of("factor a p,q p p q q", "factor b r,s r s r s")
        self.assertEqual(idle(model_of(fair, "a*b")), ("idle",))
        for value in wrong_values() + [("idle",), idle(model_of(LITTLE, "a + b"))]:
            self.assertFalse(is_hanging(model_of(fair, "a + b"), value))
            self.assertEqual(is_hanging(model_of(LITTLE, "a + b"), value), value == idle(model_of(LITTLE, "a + b")))

    def test_long_numbers(self):
        long = long_model(random.Random(88), 40, "a*b*c")
        found = idle(Model(long.table, read_formula("a + b")))
        self.assertTrue(is_hanging(Model(long.table, read_formula("a + b")), found))
        # No certificate of this model is kept from being judged, however long its sums are.
        vector = own_part(Model(long.table, read_formula("a + b")), ("a",)).rows[0]
        orders = (((), ("a",), ("b",)), ((), ("b",), ("a",)))
        self.assertTrue(is_hanging(Model(long.table, read_formula("a + b")), ("hangs", ("a",), ("b",), vector) + orders))

    def test_wrong_arguments(self):
        self.all_rejected(InvalidModel, idle)
        self.all_rejected(InvalidModel, lambda one: is_hanging(one, ("idle",)))
        self.assertEqual(idle(model_of(Table({"u": numbers(1, 2)}), "u")), ("idle",))
        self.assertEqual(idle(model_of(Table({"u": numbers(1, 2)}), "0")), ("idle",))
