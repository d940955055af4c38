"""[4.10]: counts."""

import itertools
import random

from tests.support import Case, wrong_values
from worthstead.errors import InvalidOperation
from worthstead.formulas.counts import Count, count_of
from worthstead.formulas.formulas import Formula
from worthstead.formulas.reader import read_formula
from worthstead.formulas.shadows import joint, met, shadow_of

KINDS = {"a": "factor", "b": "factor", "c": "factor", "x": "number", "z": "number"}
NAMES = "abcdefghij"
PRODUCTS = [tuple(one) for many in range(11) for one in itertools.combinations(NAMES, many)]


class MakingTest(Case):
    def test_terms(self):
        count = Count({("c",): 2, (): 1, ("a", "b"): -1})
        self.assertEqual(list(count.terms.items()), [((), 1), (("a", "b"), -1), (("c",), 2)])
        self.assertEqual(Count({}).terms, {})
        self.assertEqual(Count({tuple(NAMES) + ("k",): 10 ** 60 - 1}).terms, {tuple(NAMES) + ("k",): 10 ** 60 - 1})

    def test_no_shared_state(self):
        terms = {("a",): 2}
        count = Count(terms)
        terms[("b",)] = 3
        count.terms[("c",)] = 4
        self.assertEqual(count.terms, {("a",): 2})
        with self.assertRaises(AttributeError):
            count.terms = {}

    def test_what_is_refused(self):
        self.all_rejected(InvalidOperation, Count, [{}])
        for terms in (
            {("a",): 0}, {("a",): True}, {("a",): "1"}, {("a",): 10 ** 60}, {("b", "a"): 1}, {("a", "a"): 1}, {"a": 1}, {("in",): 1},
            {("A",): 1}, {(1,): 1}, {1: 1}, {None: 1}, {(("a",),): 1}, [(("a",), 1)], {("a",): None}, {("a",): -(10 ** 60)}, {("a",): 1, (): 0},
        ):
            self.raises(InvalidOperation, Count, terms)
        self.assertEqual(len(Count({names: 1 for names in PRODUCTS[:512]}).terms), 512)
        self.raises(InvalidOperation, Count, {names: 1 for names in PRODUCTS[:513]})

    def test_equality(self):
        self.assertEqual(Count({("a",): 1, (): 2}), Count({(): 2, ("a",): 1}))
        self.assertNotEqual(Count({("a",): 1}), Count({("a",): 2}))
        self.assertNotEqual(Count({("a",): 1}), Count({("b",): 1}))
        for value in wrong_values():
            self.assertIs(Count({("a",): 1}) == value, False)
            self.assertIs(Count({("a",): 1}) != value, True)
        for act in (lambda: iter(Count({})), lambda: len(Count({})), lambda: () in Count({}), lambda: Count({}) * Count({})):
            with self.assertRaises(TypeError):
                act()

    def test_texts(self):
        for terms, text in (
            ({}, "0"), ({(): 1}, "1"), ({(): -1}, "-1"), ({(): 7}, "7"), ({("a",): 1}, "a"), ({("a",): -1}, "-a"), ({("a",): -3}, "-3*a"),
            ({("a", "b"): -1, ("c",): 2, (): 1}, "-a*b + 2*c + 1"), ({("a", "b"): 1, ("a",): -1, ("b",): -1, (): 1}, "a*b - a - b + 1"),
            ({("b",): 1, ("a",): 1, ("a", "c"): 5, ("a", "b"): -2}, "-2*a*b + 5*a*c + a + b"), ({("a",): 1, (): -10}, "a - 10"),
            ({("b", "c"): 12, ("a", "d"): 1}, "a*d + 12*b*c"), ({("a", "b", "c"): 1, ("d",): -1}, "a*b*c - d"), ({("a10",): 1, ("a2",): 1}, "a10 + a2"),
        ):
            self.assertEqual(str(Count(terms)), text)


class SumsTest(Case):
    def test_sums(self):
        one, other = Count({("a",): 2, (): 1}), Count({("a",): -2, ("b",): 3})
        self.assertEqual((one + other).terms, {(): 1, ("b",): 3})
        self.assertEqual((one - other).terms, {(): 1, ("a",): 4, ("b",): -3})
        self.assertEqual((one - one).terms, {})
        self.assertEqual(str(one - one), "0")
        self.assertEqual(one.terms, {("a",): 2, (): 1})
        self.assertEqual(list((other + one).terms), [(), ("b",)])

    def test_long_integers(self):
        large = Count({("a",): 10 ** 60 - 1})
        self.assertEqual((large + large).terms, {("a",): 2 * (10 ** 60 - 1)})
        self.assertEqual(large + large - large, large)
        self.assertEqual(str(large + Count({("a",): 1})), f"{10 ** 60}*a")

    def test_most_products(self):
        one, other = Count({names: 1 for names in PRODUCTS[:500]}), Count({names: 1 for names in PRODUCTS[490:512]})
        self.assertEqual(len((one + other).terms), 512)
        self.assertEqual(len((one - other).terms), 502)
        more = Count({names: 1 for names in PRODUCTS[490:513]})
        self.too_many(512, lambda: one + more)
        self.assertEqual(len((one - more).terms), 503)
        last = Count({names: -1 for names in PRODUCTS[499:513]})
        self.assertEqual(len((one + last).terms), 512)
        self.too_many(512, lambda: one - last)

    def test_other_operands(self):
        for value in wrong_values():
            if not isinstance(value, Count):
                for act in (
                    lambda: Count({}) + value, lambda: value + Count({}), lambda: Count({}) - value, lambda: value - Count({}),
                ):
                    with self.assertRaises(TypeError):
                        act()


class WorthTest(Case):
    COUNT = Count({("a", "b"): 2, ("c",): -1, (): 5})

    def test_worth(self):
        self.assertEqual(self.COUNT({"a": 3, "b": 4, "c": 7}), 22)
        self.assertEqual(self.COUNT({"a": 1, "b": 1000, "c": 1, "d": 3}), 2004)
        self.assertEqual((Count({})({}), Count({(): -4})({"q": 1})), (0, -4))

    def test_what_is_refused(self):
        self.all_rejected(InvalidOperation, self.COUNT, [{}])
        for levels in (
            {"a": 0}, {"a": 1001}, {"a": -1}, {"a": True}, {"a": "3"}, {"a": None}, {"in": 3}, {"A": 3}, {1: 3}, {("a",): 3},
            {"a": 3, "b": 4, "c": 0}, {"a": 3, "b": 4, "c": 7, "q": 0}, [("a", 3)],
        ):
            self.raises(InvalidOperation, self.COUNT, levels)
        self.unknown("a", self.COUNT, {})
        self.unknown("b", self.COUNT, {"a": 3})
        self.unknown("c", self.COUNT, {"a": 3, "b": 1, "d": 4})
        self.raises(InvalidOperation, self.COUNT, {"d": 0})


class CountOfTest(Case):
    def test_texts(self):
        for text, wanted in (
            ("1", "1"), ("0", "0"), ("a", "a"), ("0 + a", "a"), ("a*b", "a*b"), ("a + b", "a + b - 1"), ("a + b + c", "a + b + c - 2"),
            ("x", "2"), ("0 + x", "1"), ("a*x", "2*a"), ("a + x", "a + 1"), ("0 + a:x + b:x", "a + b - 1"), ("a:b + b:c", "a*b + b*c - b"),
            ("x*z", "4"), ("0 + x:z + a:x", "a + 1"), ("a + b:x", "a + b"), ("a*b + b*c + a*c", "a*b + a*c + b*c - a - b - c + 1"),
        ):
            self.assertEqual(str(count_of(read_formula(text), KINDS)), wanted, text)

    def test_sum_over_the_shadow(self):
        rng = random.Random(1)
        terms = [tuple(one) for many in range(6) for one in itertools.combinations("abcxz", many)]
        for _ in range(100):
            one = Formula(tuple(rng.sample(terms, rng.randint(0, 5))))
            other = Formula(tuple(rng.sample(terms, rng.randint(0, 5))))
            levels = {name: rng.randint(1, 1000) for name in "abc"}
            right = 0
            for _, factors in shadow_of(one, KINDS):
                product = 1
                for name in factors:
                    product *= levels[name] - 1
                right += product
            self.assertEqual(count_of(one, KINDS)(levels), right)
            both = count_of(met(one, other, KINDS), KINDS) + count_of(joint(one, other, KINDS), KINDS)
            self.assertEqual(count_of(one, KINDS) + count_of(other, KINDS), both)

    def test_nine_factors(self):
        kinds = {name: "factor" for name in NAMES}
        self.assertEqual(str(count_of(read_formula("a:b:c:d:e:f:g:h:i"), kinds)), "a*b*c*d*e*f*g*h*i")
        pairs = Formula(tuple(itertools.combinations(NAMES[:9], 8)))
        self.assertEqual(len(count_of(pairs, kinds).terms), 511)
