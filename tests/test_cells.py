"""Stage 6: joined parts, ways between levels, and cells that tell all."""

import itertools
import random

from tests.linear import as_fractions, rank
from tests.making import factor, levels_of, model_of, random_formula, random_table, table_of
from tests.support import Case, r, wrong_values
from worthstead.errors import InvalidFormula, InvalidModel, InvalidOperation, InvalidTable
from worthstead.exact.ratios import Ratio, is_ratio, total
from worthstead.formulas.formulas import Formula
from worthstead.formulas.reader import read_formula
from worthstead.models.cells import fewest, joined_parts, way_between
from worthstead.models.models import Model
from worthstead.models.told import told
from worthstead.tables.columns import Factor
from worthstead.tables.tables import Table

ISLES = table_of(
    "factor a p,q,r,s p p q ? r r s",
    "factor b t,u,v,w,x t u u v v ? w",
    "number n 1 2 3 4 5 6 7",
)


def two_factors(rng):
    factors = (("a", rng.randint(2, 8)), ("b", rng.randint(2, 8)))
    return random_table(rng, rng.randint(0, 12), factors=factors, lacking=0.1)


def difference(model, name, start, end):
    """The combination that makes one level of a factor less another one, with the first coding."""
    others = {other: 0 for other in model.levels}
    ahead, behind = model.row_for({**others, name: end}), model.row_for({**others, name: start})
    return tuple(left - right for left, right in zip(ahead, behind))


class JoinedPartsTest(Case):
    def test_small_ones(self):
        self.assertEqual(joined_parts(ISLES, "a", "b"), (((0, 1), (0, 1)), ((2,), (2,)), ((3,), (3,))))
        self.assertEqual(joined_parts(ISLES, "b", "a"), (((0, 1), (0, 1)), ((2,), (2,)), ((3,), (3,))))
        self.assertEqual(joined_parts(ISLES.picked(()), "a", "b"), ())
        self.assertEqual(joined_parts(ISLES.picked((3, 5)), "a", "b"), ())
        crossed = table_of("factor a p,q,r r p q", "factor b t,u,v t u t")
        self.assertEqual(joined_parts(crossed, "a", "b"), (((0,), (1,)), ((1, 2), (0,))))

    def test_parts_tell_differences(self):
        rng = random.Random(65)
        for _ in range(60):
            table = two_factors(rng)
            parts = joined_parts(table, "a", "b")
            seen = [(table["a"].codes[at], table["b"].codes[at]) for at in table.complete(("a", "b"))]
            self.assertEqual(sorted(one for part in parts for one in part[0]), sorted({one for one, _ in seen}))
            self.assertEqual(sorted(one for part in parts for one in part[1]), sorted({one for _, one in seen}))
            self.assertEqual(list(parts), sorted(parts))
            model = model_of(table, "a + b")
            for side, name in enumerate("ab"):
                places = {level: at for at, part in enumerate(parts) for level in part[side]}
                for start, end in itertools.combinations(sorted(places), 2):
                    word = told(model, difference(model, name, start, end))[0]
                    self.assertEqual(word == "told", places[start] == places[end])

    def test_wrong_arguments(self):
        self.all_rejected(InvalidTable, lambda one: joined_parts(one, "a", "a"), right=(Table({}), Table({}, total=3)))
        for value in wrong_values() + ["n", "q"]:
            if value != "a":
                self.unknown(value, joined_parts, ISLES, value, "q")
                self.unknown(value, joined_parts, ISLES, "b", value)
        self.unknown("x", joined_parts, Table({}), "x", "x")
        self.raises(InvalidOperation, joined_parts, ISLES, "a", "a")


class WayTest(Case):
    def check_way(self, table, way, start, end):
        a, b = table["a"].codes, table["b"].codes
        self.assertEqual(len(way) % 2, 0)
        if not way:
            self.assertEqual(start, end)
            return
        self.assertEqual((b[way[0]], b[way[-1]]), (start, end))
        for at in range(len(way) - 1):
            codes = b if at % 2 else a
            self.assertIsNotNone(codes[way[at]])
            self.assertEqual(codes[way[at]], codes[way[at + 1]])

    def test_by_chance(self):
        rng = random.Random(66)
        lengths = []
        for _ in range(80):
            table = two_factors(rng)
            rows = [(table["a"].codes[at], table["b"].codes[at]) for at in table.complete(("a", "b"))]
            model = model_of(table, "a + b")
            total_levels = len(table["b"].levels)
            for start, end in itertools.product(range(total_levels), repeat=2):
                way = way_between(table, "a", "b", start, end)
                reach = {start: 0}
                for steps in range(1, 13):
                    for one, level in [(one, level) for one, level in rows if reach.get(level, 99) == steps - 1]:
                        for other, further in rows:
                            if other == one:
                                reach.setdefault(further, steps)
                if end not in reach:
                    self.assertIsNone(way)
                    continue
                self.assertEqual(len(way), 2 * reach[end])
                self.check_way(table, way, start, end)
                lengths.append(len(way))
                # The rows with the signs -, +, -, + make the end less the start.
                signed = [Ratio(0)] * len(model)
                for at, index in enumerate(way):
                    row = model.rows[model.kept.index(index)]
                    signed = [one + other if at % 2 else one - other for one, other in zip(signed, row)]
                self.assertEqual(tuple(signed), difference(model, "b", start, end))
        self.assertGreaterEqual(max(lengths), 6)

    def test_small_ones(self):
        self.assertEqual(way_between(ISLES, "a", "b", 0, 1), (0, 1))
        self.assertEqual(way_between(ISLES, "a", "b", 1, 0), (1, 0))
        self.assertIsNone(way_between(ISLES, "a", "b", 0, 2))
        self.assertIsNone(way_between(ISLES, "a", "b", 4, 0))
        self.assertIsNone(way_between(ISLES, "a", "b", 0, 4))
        for level in range(5):
            self.assertEqual(way_between(ISLES, "a", "b", level, level), ())
        self.assertEqual(way_between(ISLES.picked(()), "a", "b", 2, 2), ())

    def test_wrong_arguments(self):
        self.all_rejected(
            InvalidTable, lambda one: way_between(one, "a", "a", 9, 9), right=(Table({}), Table({}, total=3))
        )
        for value in ("n", "q", None, ("a",), 0):
            self.unknown(value, way_between, ISLES, value, "q", 9, 9)
            self.unknown(value, way_between, ISLES, "a", value, 9, 9)
        for value in wrong_values() + [5]:
            if not (type(value) is int and 0 <= value < 5):
                self.number(value, way_between, ISLES, "a", "b", value, -1)
                self.number(value, way_between, ISLES, "a", "b", 0, value)
        self.number(4, way_between, ISLES, "a", "a", 4, 9)
        self.number(9, way_between, ISLES, "a", "a", 3, 9)
        self.raises(InvalidOperation, way_between, ISLES, "a", "a", 3, 3)


class FewestTest(Case):
    def rows_of(self, formula, levels, cells):
        columns = {name: factor(levels[name], ()) for name in levels}
        model = Model(Table(columns), formula)
        return [model.row_for(dict(zip(formula.names, cell))) for cell in cells], len(model)

    def test_by_chance(self):
        rng = random.Random(67)
        words = set()
        for _ in range(80):
            formula = random_formula(rng, list("abc"), 3)
            levels = {name: 2 if name == "c" else rng.randint(2, 3) for name in formula.names}
            kinds = {**{name: "factor" for name in formula.names}, "q": "number", "r": "factor"}
            cells = tuple(
                tuple(rng.randrange(levels[name]) for name in formula.names) for _ in range(rng.randint(0, 30))
            )
            rows, columns = self.rows_of(formula, levels, cells)
            word, shown = fewest(formula, kinds, levels, cells)
            words.add(word)
            lines = as_fractions(rows)
            taken = [at for at in range(len(cells)) if rank(lines[: at + 1], columns) > rank(lines[:at], columns)]
            if word == "all":
                self.assertEqual(len(taken), columns)
                self.assertEqual(shown, tuple(cells[at] for at in taken))
            else:
                self.assertLess(len(taken), columns)
                self.assertEqual(len(shown), columns)
                self.assertTrue(all(is_ratio(one) for one in shown) and any(shown))
                for row in rows:
                    self.assertEqual(total(tuple(one * two for one, two in zip(row, shown))), r(0))
        self.assertEqual(words, {"all", "lack"})

    def test_small_ones(self):
        kinds, levels = {"a": "factor", "b": "factor"}, {"a": 2, "b": 2}
        formula = read_formula("a + b")
        self.assertEqual(
            fewest(formula, kinds, levels, ((0, 0), (0, 0), (1, 1), (0, 0), (1, 0), (0, 1))), ("all", ((0, 0), (1, 1), (1, 0)))
        )
        self.assertEqual(fewest(formula, kinds, levels, ((0, 0), (0, 0), (1, 1), (0, 0)))[0], "lack")
        self.assertEqual(fewest(formula, kinds, levels, ())[0], "lack")
        self.assertEqual(fewest(Formula(()), {}, {}, ()), ("all", ()))
        self.assertEqual(fewest(Formula(()), {}, {}, ((), ())), ("all", ()))
        self.assertEqual(fewest(Formula(((),)), {}, {}, ((), ())), ("all", ((),)))
        self.assertEqual(fewest(read_formula("b ~ 1"), {}, {}, ())[0], "lack")

    def test_kinds_of_arguments(self):
        formula, kinds, levels = read_formula("y ~ a + b"), {"a": "factor", "b": "factor"}, {"a": 2, "b": 3}
        self.all_rejected(InvalidFormula, lambda one: fewest(one, {}, 3, 3), right=(Formula(()), Formula(((), ("a",)))))
        self.all_rejected(InvalidFormula, lambda one: fewest(formula, one, 3, 3), right=({}, {"a": "factor"}))
        self.all_rejected(InvalidModel, lambda one: fewest(formula, kinds, one, 3))
        for wrong in (
            {}, {"a": 2}, {"a": 2, "b": 3, "y": 2}, {"a": 1, "b": 3}, {"a": 13, "b": 3}, {"a": True, "b": 3},
            {"a": 2, "c": 3}, {"a": "2", "b": 3},
        ):
            self.raises(InvalidModel, fewest, formula, {}, wrong, ())
        self.all_rejected(InvalidModel, lambda one: fewest(formula, kinds, levels, one), right=((),))
        for wrong in (
            [(0, 0)], ((0,),), ((0, 0, 0),), ((0, 3),), ((2, 0),), ((0, -1),), ((0, True),), ((0, None),), ([0, 0],),
            ((0, 0),) * 65, ((r(0), r(0)),),
        ):
            self.raises(InvalidModel, fewest, formula, {}, levels, wrong)
        self.assertEqual(fewest(formula, kinds, levels, ((0, 0),) * 64)[0], "lack")

    def test_names_and_columns(self):
        formula, levels = read_formula("a + b"), {"a": 12, "b": 12}
        self.unknown("a", fewest, formula, {}, levels, ())
        self.unknown("b", fewest, formula, {"a": "number"}, levels, ())
        self.raises(InvalidOperation, fewest, formula, {"a": "number", "b": "factor"}, levels, ())
        both = {"a": "factor", "b": "factor", "c": "factor"}
        self.assertEqual(fewest(formula, both, levels, ())[0], "lack")
        longer = read_formula("a + b + c")
        self.assertEqual(fewest(longer, both, {**levels, "c": 2}, ())[0], "lack")
        self.too_many(24, fewest, longer, both, {**levels, "c": 3}, ())
        self.too_many(24, fewest, read_formula("a*b"), both, levels, ())
        self.raises(InvalidOperation, fewest, read_formula("a*b"), {"a": "number", "b": "factor"}, levels, ())
        self.raises(InvalidModel, fewest, read_formula("a*b"), {}, levels, ((12, 0),))
        self.raises(InvalidModel, fewest, read_formula("a*b"), {}, {}, None)

    def test_the_rows_are_those_of_models(self):
        lines = list(itertools.product(range(2), range(3)))
        table = Table({"a": Factor(levels_of(2), tuple(a for a, _ in lines)), "b": Factor(levels_of(3), tuple(b for _, b in lines))})
        formula = read_formula("b + a:b")
        word, taken = fewest(formula, table.kinds, {"a": 2, "b": 3}, tuple(reversed(lines)))
        self.assertEqual((word, taken), ("all", tuple(reversed(lines))))
        self.assertEqual(len(Model(table, formula).space), 6)
