"""[4.6] to [4.9], [0.11] and the first two sentences of [0.18]: shadows."""

import itertools
import random

from tests.support import Case, wrong_values
from worthstead.errors import InvalidFormula
from worthstead.exact.ratios import Ratio
from worthstead.exact.rows import rank_of
from worthstead.formulas.counts import count_of
from worthstead.formulas.formulas import Formula
from worthstead.formulas.reader import read_formula
from worthstead.formulas.shadows import is_alike, is_parted, joint, met, parted, plain, shadow_of

KINDS = {"a": "factor", "b": "factor", "c": "factor", "x": "number", "z": "number"}
TERMS = [tuple(one) for many in range(4) for one in itertools.combinations("abxz", many)]
CALLS = {
    "is_alike": is_alike, "parted": parted, "met": met, "joint": joint,
    "is_parted": lambda one, other, kinds: is_parted(one, other, kinds, None),
}


def random_formula(rng):
    return Formula(tuple(rng.sample(TERMS, rng.randint(0, 5))), response=rng.choice((None, "y")))


def held(term):
    """The pairs that a term holds."""
    numbers = tuple(name for name in term if KINDS[name] == "number")
    factors = [name for name in term if KINDS[name] == "factor"]
    return {(numbers, part) for many in range(len(factors) + 1) for part in itertools.combinations(factors, many)}


def full_columns(formula, levels):
    """The full columns of the terms on the table of all cells, each with numbers that are 0 and 1."""
    names = "abxz"
    cells = list(itertools.product(*[range(levels) if KINDS[name] == "factor" else range(2) for name in names]))
    columns = []
    for numbers, factors in {pair for term in formula for pair in held(term)}:
        for choice in itertools.product(range(levels), repeat=len(factors)):
            column = []
            for cell in cells:
                worths = dict(zip(names, cell))
                lies = all(worths[name] == level for name, level in zip(factors, choice))
                column.append(int(lies and all(worths[name] for name in numbers)))
            columns.append(tuple(column))
    return tuple(tuple(Ratio(one) for one in column) for column in dict.fromkeys(columns))


def is_shown(having, lacking, pair, rows, weights):
    """By the words of [4.8], whether the weights are square to all full columns of a shadow, but not of the pair."""

    def products(pair):
        numbers, factors = pair
        found = []
        for choice in itertools.product((0, 1), repeat=len(factors)):
            column = [all(row[n] for n in numbers) and all(row[f] == k for f, k in zip(factors, choice)) for row in rows]
            found.append(sum(weight for weight, lies in zip(weights, column) if lies))
        return found

    return pair in having and any(products(pair)) and not any(any(products(other)) for other in lacking)


class ShadowTest(Case):
    def test_order(self):
        self.assertEqual(
            shadow_of(read_formula("y ~ 0 + a:b + b:x + z:x"), KINDS),
            (
                ((), ()), ((), ("a",)), ((), ("b",)), (("x",), ()), ((), ("a", "b")), (("x",), ("b",)), (("x", "z"), ()),
            ),
        )
        self.assertEqual(shadow_of(read_formula("0"), KINDS), ())
        self.assertEqual(shadow_of(read_formula("1"), {}), (((), ()),))
        self.assertEqual(shadow_of(read_formula("0 + x"), KINDS), ((("x",), ()),))
        self.assertEqual(shadow_of(read_formula("a"), KINDS), (((), ()), ((), ("a",))))

    def test_on_random_formulas(self):
        rng = random.Random(1)
        for _ in range(100):
            formula = random_formula(rng)
            pairs = {pair for term in formula for pair in held(term)}
            right = sorted(pairs, key=lambda pair: (len(pair[0]) + len(pair[1]), pair[0], pair[1]))
            self.assertEqual(shadow_of(formula, KINDS), tuple(right))

    def test_alike(self):
        for one, other, wanted in (
            ("0 + a", "a", True), ("0 + a", "1 + a", True), ("y ~ a", "z ~ a", True), ("a*b", "0 + a:b", True), ("a/b", "0 + a:b", True),
            ("a", "b", False), ("x", "0 + x", False), ("a:x", "a*x", False), ("0 + a:x", "0 + x + a:x", True), ("0", "1", False),
            ("a + b", "a:b", False), ("a + b", "b + a", True), ("x:z", "x + z", False),
        ):
            self.assertIs(is_alike(read_formula(one), read_formula(other), KINDS), wanted, (one, other))

    def test_what_is_not_true(self):
        one, other = read_formula("0 + a"), read_formula("1 + a")
        self.assertIs(is_alike(one, other, KINDS), True)
        self.assertEqual(parted(one, other, KINDS), ("alike",))
        one, other = read_formula("1 + x"), read_formula("1 + z")
        self.assertEqual(count_of(one, KINDS), count_of(other, KINDS))
        self.assertIs(is_alike(one, other, KINDS), False)

    def test_alike_formulas_span_the_same(self):
        rng = random.Random(2)
        seen = set()
        for _ in range(25):
            one, other = random_formula(rng), random_formula(rng)
            if rng.random() < 0.4:
                other = plain(one, KINDS) + Formula(one.terms[:1])
            left, right = full_columns(one, 2), full_columns(other, 2)
            both = rank_of(left + right)
            self.assertIs(is_alike(one, other, KINDS), rank_of(left) == both == rank_of(right))
            self.assertEqual(rank_of(left), count_of(one, KINDS)({"a": 2, "b": 2}))
            seen.add(is_alike(one, other, KINDS))
        self.assertEqual(seen, {True, False})


class PartedTest(Case):
    def test_small_ones(self):
        self.assertEqual(parted(read_formula("0"), read_formula("1"), {}), ("parted", "other", ((), ()), ({},), (1,)))
        self.assertEqual(
            parted(read_formula("y ~ a:x"), read_formula("b"), KINDS),
            (
                "parted", "other", ((), ("b",)), ({"a": 0, "b": 0, "x": 0}, {"a": 0, "b": 1, "x": 0}), (-1, 1),
            ),
        )
        found = parted(read_formula("0 + x:b"), read_formula("0 + x + z"), KINDS)
        self.assertEqual(found[:3], ("parted", "other", (("z",), ())))
        found = parted(read_formula("0 + x:b"), read_formula("0 + x"), KINDS)
        self.assertEqual(
            found,
            (
                "parted", "one", (("x",), ("b",)),
                ({"b": 0, "x": 0}, {"b": 0, "x": 1}, {"b": 1, "x": 0}, {"b": 1, "x": 1}), (1, -1, -1, 1),
            ),
        )
        self.assertEqual([list(one) for one in found[3]], [["b", "x"]] * 4)

    def test_on_random_formulas(self):
        rng = random.Random(3)
        for _ in range(150):
            one, other = random_formula(rng), random_formula(rng)
            value = parted(one, other, KINDS)
            self.assertIs(is_parted(one, other, KINDS, value), True)
            self.assertIs(value == ("alike",), is_alike(one, other, KINDS))
            self.assertIs(is_parted(one, other, KINDS, ("alike",)), is_alike(one, other, KINDS))
            if len(value) == 5:
                word, side, pair, rows, weights = value
                back = "one" if side == "other" else "other"
                self.assertIs(is_parted(other, one, KINDS, (word, back, pair, rows, weights)), True)
                self.assertIs(is_parted(one, other, KINDS, (word, back, pair, rows, weights)), False)
                self.assertIs(is_parted(one, other, KINDS, (word, side, pair, rows, weights[:-1])), False)
                self.assertIs(is_parted(one, other, KINDS, (word, side, pair, rows, (0,) * len(rows))), False)
                double = (word, side, pair, rows, tuple(7 * weight for weight in weights))
                self.assertIs(is_parted(one, other, KINDS, double), True)
                mixed = (word, side, pair, rows[::-1], weights[::-1])
                self.assertIs(is_parted(one, other, KINDS, mixed), True)
                alone = [p for p in shadow_of(one, KINDS) + shadow_of(other, KINDS)
                         if (p in shadow_of(one, KINDS)) != (p in shadow_of(other, KINDS))]
                self.assertEqual(pair, min(alone, key=lambda p: (len(p[0]) + len(p[1]), p)))

    def test_on_random_values(self):
        rng = random.Random(5)
        found = []
        for _ in range(1500):
            one, other = Formula(tuple(rng.sample(TERMS[:11], 2))), Formula(tuple(rng.sample(TERMS[:5], 1)))
            names = sorted(set(one.names + other.names))
            side, having, lacking = rng.choice((("one", one, other), ("other", other, one)))
            having, lacking = shadow_of(having, KINDS), shadow_of(lacking, KINDS)
            pair = rng.choice(having)
            rows = tuple({name: rng.randint(0, 1) for name in names} for _ in range(rng.randint(1, 3)))
            weights = tuple(rng.randint(-1, 1) for _ in rows)
            right = is_shown(having, lacking, pair, rows, weights)
            self.assertIs(is_parted(one, other, KINDS, ("parted", side, pair, rows, weights)), right)
            found.append(right)
        self.assertGreater(found.count(True), 30)

    def test_other_right_values(self):
        one, other = read_formula("a + b"), read_formula("a")
        rows = ({"a": 1, "b": 1}, {"a": 1, "b": 0})
        self.assertIs(is_parted(one, other, KINDS, ("parted", "one", ((), ("b",)), rows, (5, -5))), True)
        self.assertIs(is_parted(one, other, KINDS, ("parted", "one", ((), ("b",)), rows * 2, (5, -5, 1, -1))), True)
        self.assertIs(is_parted(one, other, KINDS, ("parted", "one", ((), ("b",)), rows * 2, (5, -5, -5, 5))), False)
        self.assertIs(is_parted(one, other, KINDS, ("parted", "one", ((), ("b",)), rows * 256, (1, -1) * 256)), True)
        self.assertIs(is_parted(one, other, KINDS, ("parted", "one", ((), ("b",)), rows * 257, (1, -1) * 257)), False)
        self.assertIs(is_parted(one, other, KINDS, ("parted", "one", ((), ("b",)), rows * 256 + rows[:1], (1, -1) * 256 + (0,))), False)
        self.assertIs(is_parted(one, other, KINDS, ("parted", "one", ((), ("b",)), rows * 255 + rows[:1], (1, -1) * 255 + (0,))), True)
        both = read_formula("a*b")
        square = tuple({"a": a, "b": b} for a in (0, 1) for b in (0, 1))
        self.assertIs(is_parted(both, one, KINDS, ("parted", "one", ((), ("a", "b")), square, (3, -3, -3, 3))), True)
        self.assertIs(is_parted(both, read_formula("1"), KINDS, ("parted", "one", ((), ("a", "b")), square, (1, 0, 0, -1))), True)
        self.assertIs(is_parted(both, read_formula("1"), KINDS, ("parted", "one", ((), ("a",)), square, (1, 0, 0, -1))), True)
        self.assertIs(is_parted(both, read_formula("1"), KINDS, ("parted", "one", ((), ()), square, (1, 0, 0, -1))), False)

    def test_near_values(self):
        one, other = read_formula("1"), read_formula("x")
        rows, weights = ({"x": 0}, {"x": 1}), (-1, 1)
        pair = (("x",), ())
        self.assertIs(is_parted(one, other, KINDS, ("parted", "other", pair, rows, weights)), True)
        for value in (
            ("parted", "one", pair, rows, weights), ("parted", "both", pair, rows, weights), ("parts", "other", pair, rows, weights),
            ("parted", "other", ((), ("x",)), rows, weights), ("parted", "other", ((), ()), rows, weights),
            ("parted", "other", [("x",), ()], rows, weights), ("parted", "other", (["x"], ()), rows, weights),
            ("parted", "other", "x", rows, weights), ("parted", "other", pair, list(rows), weights),
            ("parted", "other", pair, rows, list(weights)), ("parted", "other", pair, rows, (-1, 2)), ("parted", "other", pair, rows, (-1, True)),
            ("parted", "other", pair, ({"x": 0}, {"x": True}), weights), ("parted", "other", pair, ({"x": False}, {"x": 1}), weights),
            ("parted", "other", pair, ({"x": 0}, {"x": 2}), weights), ("parted", "other", pair, ({"x": 0}, {"z": 1}), weights),
            ("parted", "other", pair, ({"x": 0}, {"x": 1, "z": 0}), weights), ("parted", "other", pair, ({"x": 0}, {}), weights),
            ("parted", "other", pair, ({"x": 0}, None), weights), ("parted", "other", pair, ((("x", 0),), {"x": 1}), weights),
            ("parted", "other", pair, (), ()), ("parted", "other", pair, rows, weights, 0), ("parted", "other", pair, rows),
            ["parted", "other", pair, rows, weights], ("parted", "other", pair, rows, (-(10 ** 60), 10 ** 60)),
            ("parted", "other", pair, rows, (Ratio(-1), Ratio(1))), ("parted", None, pair, rows, weights), ("alike",), ("alike", 1), "alike",
        ):
            self.assertIs(is_parted(one, other, KINDS, value), False, value)
        for value in wrong_values():
            self.assertIs(is_parted(one, other, KINDS, value), False)
            for at in range(5):
                near = ["parted", "other", pair, rows, weights]
                near[at] = value
                self.assertIs(is_parted(one, other, KINDS, tuple(near)), False)
        large = 10 ** 60 - 1
        self.assertIs(is_parted(one, other, KINDS, ("parted", "other", pair, rows, (-large, large))), True)
        self.assertIs(is_parted(one, one, KINDS, ("alike",)), True)
        self.assertIs(is_parted(one, one, KINDS, ["alike"]), False)

    def test_nine_and_ten_names(self):
        kinds = {name: "factor" for name in "abcdefghij"}
        one, other = read_formula("a:b:c:d:e:f:g:h:i"), read_formula("1")
        value = parted(one, read_formula("(a + b + c + d + e + f + g + h + i)^2"), kinds)
        self.assertEqual((value[0], value[1], len(value[2][1]), len(value[3])), ("parted", "one", 3, 8))
        self.assertEqual(parted(one, other, kinds)[2], ((), ("a",)))
        self.refused(("names",), parted, one, read_formula("j"), kinds)
        self.refused(("names",), is_parted, one, read_formula("j"), kinds, None)
        self.refused(("names",), parted, read_formula("a + b + c + d + e"), read_formula("f + g + h + i + j"), kinds)
        self.assertIs(is_alike(one, read_formula("j"), kinds), False)
        self.unknown("j", parted, one, read_formula("j"), {name: "factor" for name in "abcdefghi"})

    def test_the_largest_certificate(self):
        kinds = {name: "factor" if name < "e" else "number" for name in "abcdefghi"}
        one, other = read_formula("0 + a:b:c:d:e:f:g:h:i"), read_formula("0 + a:b:c:d:e:f:g:h + a:b:c:e:f:g:h:i")
        value = parted(one, Formula(other.terms), kinds)
        self.assertIs(is_parted(one, other, kinds, value), True)
        all_parts = Formula(tuple(("a", "b", "c", "d")[:k] + ("a", "b", "c", "d")[k + 1:] + tuple("efghi") for k in range(4)))
        value = parted(one, all_parts, kinds)
        self.assertEqual((len(value[3]), value[2]), (512, (tuple("efghi"), tuple("abcd"))))
        self.assertIs(is_parted(one, all_parts, kinds, value), True)
        near = value[:4] + (value[4][:100] + (0,) + value[4][101:],)
        self.assertIs(is_parted(one, all_parts, kinds, near), not all(value[3][100][name] for name in "efghi"))


class PlainTest(Case):
    def test_plain(self):
        for text, wanted in (
            ("y ~ a*b", "y ~ 0 + a:b"), ("a + b", "0 + a + b"), ("a + a:b:x", "0 + a + a:b:x"), ("1", "1"), ("0", "0"), ("y ~ 0", "y ~ 0"),
            ("x + a:x + z", "z + a:x"), ("b:x + a + b + z", "0 + a + b + z + b:x"), ("0 + z:x + x", "0 + x + x:z"),
        ):
            self.assertEqual(str(plain(read_formula(text), KINDS)), wanted)

    def test_order(self):
        self.assertEqual(plain(read_formula("0 + z + x + b + a"), KINDS).terms, (("a",), ("b",), ("x",), ("z",)))
        self.assertEqual(plain(read_formula("0 + b:x + a:z + x:z + a:b"), KINDS).terms, (("a", "b"), ("b", "x"), ("x", "z"), ("a", "z")))

    def test_on_random_formulas(self):
        rng = random.Random(4)
        for _ in range(100):
            one, other = random_formula(rng), random_formula(rng)
            left, right = set(shadow_of(one, KINDS)), set(shadow_of(other, KINDS))
            simple = plain(one, KINDS)
            self.assertIs(is_alike(simple, one, KINDS), True)
            self.assertEqual(simple.response, one.response)
            for term in simple:
                self.assertIn(term, one)
                self.assertIs(is_alike(simple.without(term), one, KINDS), False)
            both, either = met(one, other, KINDS), joint(one, other, KINDS)
            self.assertEqual((set(shadow_of(both, KINDS)), set(shadow_of(either, KINDS))), (left & right, left | right))
            self.assertEqual((both.response, either.response), (one.response, one.response))
            self.assertEqual((plain(both, KINDS), plain(either, KINDS)), (both, either))

    def test_a_response_that_is_a_name_of_the_joint(self):
        one, other = read_formula("x ~ a"), read_formula("x + b")
        self.raises(InvalidFormula, joint, one, other, KINDS)
        self.assertEqual(str(joint(other, one, KINDS)), "0 + a + b + x")
        self.assertEqual(str(met(one, other, KINDS)), "x ~ 1")

    def test_joints_that_are_too_large(self):
        kinds = {name: "number" for name in "abcdefghij"}
        one, other = read_formula("a + b + c + d + e"), read_formula("f + g + h + i + j")
        self.too_many(9, joint, one, other, kinds)
        self.assertEqual(str(met(one, other, kinds)), "1")
        one, other = read_formula("(a+b+c+d+e+f+g)^7"), read_formula("0 + (a+b+c+d+e+f+h)^7")
        self.assertEqual(len(joint(one, other, kinds)), 192)
        more = one + read_formula("i + i:a + i:b + i:c + i:d + i:e + i:f + i:a:b")
        self.assertEqual(len(joint(more, other, kinds)), 200)
        self.too_many(200, joint, more.with_term(("a", "c", "i")), other, kinds)


class ErrorsTest(Case):
    def test_formulas(self):
        right = [Formula(()), Formula(((), ("a",)))]
        for call in (shadow_of, plain, count_of):
            self.all_rejected(InvalidFormula, lambda value, call=call: call(value, None), [])
            self.all_rejected(InvalidFormula, lambda value, call=call: call(value, KINDS), right)
        for call in CALLS.values():
            self.all_rejected(InvalidFormula, lambda value, call=call: call(value, Formula(()), KINDS), right)
            self.all_rejected(InvalidFormula, lambda value, call=call: call(Formula(()), value, KINDS), right)

    def test_kinds(self):
        for value in wrong_values() + [{"a": "Factor"}, {"a": None}, {"in": "factor"}, {"A": "factor"}, {"a": ("factor",)}, {"a": True}]:
            if value != {} and value != {"a": "factor"}:
                self.raises(InvalidFormula, shadow_of, read_formula("1"), value)
                self.raises(InvalidFormula, plain, read_formula("1"), value)
                for call in CALLS.values():
                    self.raises(InvalidFormula, call, read_formula("1"), read_formula("1"), value)
        self.assertEqual(shadow_of(read_formula("1"), {"q": "number"}), (((), ()),))

    def test_names_that_kinds_lack(self):
        for call in (shadow_of, plain, count_of):
            self.unknown("b", call, read_formula("y ~ c + a:b"), {"a": "factor", "d": "number"})
            call(read_formula("y ~ a"), {"a": "factor"})
        for call in CALLS.values():
            self.unknown("b", call, read_formula("d"), read_formula("c + a:b"), {"a": "factor"})
            self.unknown("b", call, read_formula("c + b"), read_formula("d"), {"a": "factor"})
            self.raises(InvalidFormula, call, read_formula("b"), read_formula("b"), {"a": "factors"})
