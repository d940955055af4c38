"""Stage 5: what leads from one coding to another one."""

import random

from tests.making import factor, model_of, random_formula, random_table, table_of
from tests.support import Case, texts
from worthstead.errors import InvalidModel
from worthstead.exact.ratios import Ratio, total
from worthstead.formulas.counts import count_of
from worthstead.models.codings import CODINGS
from worthstead.models.leading import leading
from worthstead.models.models import Model
from worthstead.models.told import is_told, told
from worthstead.tables.tables import Table


def product(one, other):
    return total(tuple(left * right for left, right in zip(one, other)))


def all_products(row, rows):
    return tuple(product(row, other) for other in rows)


def ones(size):
    return tuple(tuple(Ratio(int(at == place)) for at in range(size)) for place in range(size))


class LeadingTest(Case):
    def test_by_chance(self):
        rng = random.Random(54)
        for _ in range(60):
            table = random_table(rng, rng.randint(0, 6), factors=(("a", 2), ("b", 3), ("c", 4)), number_names="u")
            formula = random_formula(rng, list("abcu"), 2)
            names = [name for name in formula.names if name != "u"]
            if count_of(formula, table.kinds)({"a": 2, "b": 3, "c": 4}) > 24:
                continue
            codings, others = [
                {name: rng.choice(CODINGS) for name in names if rng.random() < 0.8} for _ in range(2)
            ]
            model, other = Model(table, formula, codings=codings), Model(table, formula, codings=others)
            size = len(model)
            table_l, table_m = leading(model, others)
            self.assertEqual([len(row) for row in table_l + table_m], [size] * (2 * size))
            for one, led in zip(model.rows, other.rows):
                # Each column of the model is the sum of the other columns with the weights in its column of L.
                columns = tuple(zip(*table_l)) if size else ()
                self.assertEqual(one, all_products(led, columns))
                self.assertEqual(led, all_products(one, table_m))
            inverse = tuple(zip(*table_m)) if size else ()
            self.assertEqual(tuple(all_products(row, tuple(zip(*inverse))) for row in table_l), ones(size))

    def test_forms_hang_on_no_rows(self):
        full = table_of("factor a x,y,z x y z z", "factor b u,v u v u v")
        for text in ("a*b", "a + b", "0 + a:b"):
            found = leading(model_of(full, text, a="steps"), {"b": "sum", "a": "last"})
            self.assertEqual(found, leading(model_of(full.picked(()), text, a="steps"), {"b": "sum", "a": "last"}))

    def test_weights_and_combinations(self):
        rng = random.Random(55)
        table = random_table(rng, 7, number_names="u")
        model, other = model_of(table, "a*b + b:u", b="steps"), model_of(table, "a*b + b:u", a="sum", b="last")
        table_l, table_m = leading(model, {"a": "sum", "b": "last"})
        for _ in range(10):
            weights = tuple(Ratio(rng.randint(-5, 5), rng.randint(1, 3)) for _ in model.names)
            led = all_products(weights, table_l)
            self.assertEqual(all_products(weights, model.rows), all_products(led, other.rows))
            wanted = tuple(Ratio(rng.randint(-5, 5), rng.randint(1, 3)) for _ in model.names)
            if rng.random() < 0.5:
                wanted = model.rows[rng.randrange(7)]
            moved = all_products(wanted, table_m)
            self.assertEqual(product(weights, wanted), product(led, moved))
            shown = told(model, wanted)
            if shown[0] == "told":
                self.assertTrue(is_told(other, moved, shown))
            else:
                self.assertEqual(told(other, moved)[0], "free")
                self.assertTrue(is_told(other, moved, ("free", all_products(shown[1], table_l))))

    def test_the_same_codings(self):
        model = model_of(table_of("factor a x,y,z x y z", "number u 1 2 3"), "a:u + a", a="sum")
        self.assertEqual(leading(model, {"a": "sum"}), (ones(6), ones(6)))
        self.assertEqual(leading(model, None), leading(model, {}))
        self.assertEqual(leading(model, {}), leading(model, {"a": "first"}))
        self.assertNotEqual(leading(model, {}), leading(model, {"a": "sum"}))

    def test_small_ones(self):
        model = model_of(Table({"a": factor(3, ())}), "a")
        self.assertEqual(texts(leading(model, {"a": "last"})[0]), [["1", "0", "1"], ["0", "0", "-1"], ["0", "1", "-1"]])
        self.assertEqual(
            texts(leading(model, {"a": "steps"})[0]), [["1", "1/3", "1/3"], ["0", "1/2", "0"], ["0", "-1/3", "2/3"]]
        )
        self.assertEqual(leading(model_of(Table({}), "0"), None), ((), ()))
        self.assertEqual(leading(model_of(Table({}), "1"), None), (ones(1), ones(1)))

    def test_wrong_arguments(self):
        model = model_of(table_of("factor a x,y x y", "number u 1 2", "factor b x,y x y"), "a + u")
        self.all_rejected(InvalidModel, lambda one: leading(one, None))
        self.all_rejected(InvalidModel, lambda one: leading(model, one), right=(None, {}))
        for wrong in ({"b": "sum"}, {"u": "sum"}, {"q": "first"}, {"a": "other"}, {"a": None}):
            self.raises(InvalidModel, leading, model, wrong)
