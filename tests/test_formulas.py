"""[4.1] and [4.5]: formulas and their texts."""

import random

from tests.support import Case, wrong_values
from worthstead.errors import InvalidFormula, Refused
from worthstead.formulas.formulas import Formula
from worthstead.formulas.reader import read_formula, write_formula

NINE = tuple("abcdefghi")


def all_terms(names):
    """All terms of some names, ascending by length."""
    terms = [()]
    for name in names:
        terms = terms + [term + (name,) for term in terms]
    return tuple(sorted(terms, key=len))


class MakingTest(Case):
    def test_order(self):
        formula = Formula((("b", "c"), ("z",), (), ("a", "b"), ("a",)), response="y")
        self.assertEqual(formula.terms, ((), ("z",), ("a",), ("b", "c"), ("a", "b")))
        self.assertEqual((formula.response, formula.names, len(formula)), ("y", ("a", "b", "c", "z"), 5))
        self.assertEqual(list(formula), list(formula.terms))
        self.assertEqual((Formula(()).terms, Formula(()).names, Formula(()).response), ((), (), None))

    def test_terms_that_are_wrong(self):
        right = [(), ((),), (("a",), ("b",)), (("a",),)]
        self.all_rejected(InvalidFormula, Formula, right)
        for terms in (
            (("a",), ("a",)), ((), ()), (("b", "a"),), (("a", "a"),), ("a",), ([],), (["a"],), [("a",)], ((1,),), ((None,),),
            (("in",),), (("A",),), (("abcdefghi",),), ((("a",),),), (tuple("abcdefghij"),), {("a",): 1}, None, "a", ((), None),
        ):
            self.raises(InvalidFormula, Formula, terms)

    def test_response(self):
        for value in wrong_values() + ["in", "A", "1y", ("y",)]:
            if value != "a" and value is not None:
                self.raises(InvalidFormula, Formula, ((),), response=value)
        self.raises(InvalidFormula, Formula, (("a", "y"),), response="y")
        self.assertEqual(Formula((("a", "y"),), response="x").response, "x")

    def test_nine_names(self):
        nine = tuple((name,) for name in NINE)
        self.assertEqual(Formula(nine, response="y").names, NINE)
        self.too_many(9, Formula, nine + (("j",),))
        self.raises(InvalidFormula, Formula, nine + (("j",),), response="j")
        self.raises(InvalidFormula, Formula, nine + (("j",), ("j",)))
        self.assertEqual(len(Formula((NINE,)).names), 9)
        self.raises(InvalidFormula, Formula, (NINE + ("j",),))

    def test_two_hundred_terms(self):
        terms = all_terms(NINE)
        self.assertEqual(len(Formula(terms[:200])), 200)
        self.too_many(200, Formula, terms[:201])
        self.too_many(9, Formula, terms[:200] + (("j",),))
        self.raises(InvalidFormula, Formula, terms[:201], response="a")

    def test_equality(self):
        one = Formula((("a",), ("b",)), response="y")
        self.assertEqual(one, Formula((("a",), ("b",)), response="y"))
        self.assertNotEqual(one, Formula((("b",), ("a",)), response="y"))
        self.assertNotEqual(one, Formula((("a",), ("b",))))
        self.assertNotEqual(one, Formula((("a",), ("b",)), response="x"))
        self.assertNotEqual(one, Formula((("a",),), response="y"))
        self.assertEqual(Formula((("a", "b"), ("c",))), Formula((("c",), ("a", "b"))))
        for value in wrong_values():
            self.assertIs(one == value, False)
            self.assertIs(one != value, True)
            self.assertIs(value in one, value == ("a",) and type(value) is tuple)

    def test_members(self):
        formula = Formula(((), ("a", "b")))
        self.assertIs(() in formula and ("a", "b") in formula, True)
        for value in (("a",), ("b", "a"), ["a", "b"], "ab", [], None):
            self.assertIs(value in formula, False)

    def test_what_stays_the_same(self):
        formula = Formula((("a",),))
        for name in ("terms", "response", "names"):
            with self.assertRaises(AttributeError):
                setattr(formula, name, ())
        for act in (lambda: formula[0], lambda: formula * formula, lambda: formula < formula, lambda: reversed(formula)):
            with self.assertRaises(TypeError):
                act()


class ChangingTest(Case):
    def test_sums(self):
        one, other = read_formula("y ~ a + b:c"), read_formula("x ~ c + a + a:b + b:c")
        self.assertEqual(str(one + other), "y ~ a + c + b:c + a:b")
        self.assertEqual(str(other + one), "x ~ c + a + a:b + b:c")
        self.assertEqual(str(one - other), "y ~ 0")
        self.assertEqual(str(other - one), "x ~ 0 + c + a:b")
        self.assertEqual(one - Formula(()), one)
        self.assertEqual(Formula(()) + one, Formula(one.terms))

    def test_sums_that_are_wrong(self):
        one = read_formula("y ~ a")
        self.raises(InvalidFormula, lambda: one + read_formula("y"))
        self.assertEqual(one - read_formula("y"), read_formula("y ~ 0 + a"))
        nine = read_formula("+".join(NINE))
        self.too_many(9, lambda: nine + read_formula("j"))
        self.assertEqual(nine + read_formula("0 + a:b") - read_formula("0 + a:b"), nine)
        terms = all_terms(NINE)
        self.assertEqual(len(Formula(terms[:100]) + Formula(terms[50:200])), 200)
        self.too_many(200, lambda: Formula(terms[:100]) + Formula(terms[50:201]))
        for value in wrong_values():
            if not isinstance(value, Formula):
                for act in (lambda: one + value, lambda: value + one, lambda: one - value, lambda: value - one):
                    with self.assertRaises(TypeError):
                        act()

    def test_with_term(self):
        one = read_formula("y ~ b + a:b")
        self.assertEqual(str(one.with_term(("a",))), "y ~ b + a + a:b")
        self.assertEqual(str(one.with_term(("b", "c"))), "y ~ b + a:b + b:c")
        self.assertEqual(str(Formula(()).with_term(())), "1")
        self.all_rejected(InvalidFormula, one.with_term, [(), ("a",)])
        self.raises(InvalidFormula, one.with_term, ("b", "a"))
        self.raises(InvalidFormula, one.with_term, tuple("abcdefghij"))
        self.refused(("there", ("a", "b")), one.with_term, ("a", "b"))
        self.refused(("there", ()), one.with_term, ())
        self.raises(InvalidFormula, one.with_term, ("y",))
        self.raises(InvalidFormula, one.with_term, ("b", "y"))
        nine = read_formula("+".join(NINE))
        self.too_many(9, nine.with_term, ("a", "j"))
        self.too_many(200, Formula(all_terms(NINE)[:200]).with_term, NINE)
        self.assertEqual(self.raises(Refused, Formula(all_terms(NINE)[:200]).with_term, ("a",)).reason, ("there", ("a",)))

    def test_without(self):
        one = read_formula("y ~ b + a + a:b")
        self.assertEqual(str(one.without(("b",))), "y ~ a + a:b")
        self.assertEqual(str(one.without(())), "y ~ 0 + b + a + a:b")
        self.assertEqual(str(read_formula("1").without(())), "0")
        for value in wrong_values() + [("b", "a"), ("c",), ["b"], "b"]:
            if value not in ((), ("a",)) or type(value) is not tuple:
                self.unknown(value, one.without, value)
        self.assertEqual(one.terms, ((), ("b",), ("a",), ("a", "b")))


class TextTest(Case):
    def test_texts(self):
        for terms, response, text in (
            ((), None, "0"), (((),), None, "1"), ((), "y", "y ~ 0"), (((),), "y", "y ~ 1"), ((("a",), ()), None, "a"),
            ((("a",),), None, "0 + a"), (((), ("a", "b"), ("c",)), "y", "y ~ c + a:b"), ((("a", "b"),), None, "0 + a:b"),
            ((("b", "x1"), ("b",), ("a",)), "z", "z ~ 0 + b + a + b:x1"),
        ):
            formula = Formula(terms, response=response)
            self.assertEqual((str(formula), write_formula(formula)), (text, text))
            self.assertEqual(read_formula(text), formula)

    def test_no_formula(self):
        self.all_rejected(InvalidFormula, write_formula, [Formula(()), Formula(((), ("a",)))])

    def test_reading_gives_the_formula_back(self):
        rng = random.Random(1)
        for _ in range(200):
            terms = list(all_terms(rng.sample(("a", "b", "c", "d2", "xyzxyzxy"), rng.randint(0, 5))))
            terms = [tuple(sorted(term)) for term in terms]
            rng.shuffle(terms)
            formula = Formula(tuple(terms[: rng.randint(0, len(terms))]), response=rng.choice((None, "y", "aa")))
            again = read_formula(str(formula))
            self.assertEqual(again, formula)
            self.assertEqual((again.terms, again.response, str(again)), (formula.terms, formula.response, str(formula)))

    def test_the_longest_texts(self):
        names = tuple(f"abcdefg{at}" for at in range(9))
        terms = all_terms(names)
        for some in (terms[-200:], terms[:200], terms[1:201]):
            formula = Formula(some, response="response")
            self.assertEqual(read_formula(str(formula)), formula)
