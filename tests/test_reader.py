"""[4.2] to [4.4]: formulas read."""

import random

from tests.support import Case, wrong_values
from worthstead.errors import InvalidFormula, ParseError, TooMany
from worthstead.formulas.reader import read_formula


def naive(text):
    """The terms of a right side without powers, by another way of reading: from the loosest operator inwards."""

    def split(part, signs):
        depth, pieces, start = 0, [], 0
        for at, sign in enumerate(part):
            depth += (sign == "(") - (sign == ")")
            if depth == 0 and sign in signs:
                pieces.append((part[start - 1] if start else "+", part[start:at]))
                start = at + 1
        return pieces + [(part[start - 1] if start else "+", part[start:])]

    def union(one, other):
        return one + [term for term in dict.fromkeys(other) if term not in one]

    def cross(one, other):
        return list(dict.fromkeys(tuple(sorted(set(left) | set(right))) for left in one for right in other))

    def meaning(part):
        pieces = split(part, "+-")
        if len(pieces) > 1:
            return fold(pieces)
        pieces = split(part, "*/")
        if len(pieces) > 1:
            found = meaning(pieces[0][1])
            for sign, piece in pieces[1:]:
                other = meaning(piece)
                if sign == "*":
                    found = union(union(found, other), cross(found, other))
                else:
                    found = union(found, cross([tuple(sorted({name for term in found for name in term}))], other))
            return found
        pieces = split(part, ":")
        if len(pieces) > 1:
            found = meaning(pieces[0][1])
            for _, piece in pieces[1:]:
                found = cross(found, meaning(piece))
            return found
        if part[-1].isdigit() and part[-2] == "^":
            base = meaning(part[:-2])
            found = base
            for _ in range(int(part[-1]) - 1):
                found = union(found, cross(found, base))
            return found
        return meaning(part[1:-1]) if part[0] == "(" else [(part,)]

    def fold(pieces, found=()):
        found = list(found)
        for sign, piece in pieces:
            other = [()] if piece in ("0", "1") else meaning(piece)
            is_less = sign == "-" or piece == "0"
            found = [term for term in found if term not in other] if is_less else union(found, other)
        return found

    return tuple(sorted(fold(split(text, "+-"), [()]), key=len))


def random_text(rng, depth):
    """A sum, as it can stand in parentheses."""

    def part():
        return f"({random_text(rng, depth - 1)})" if depth and rng.random() < 0.4 else rng.choice("abcd")

    def power():
        return part() + (f"^{rng.randint(1, 3)}" if rng.random() < 0.2 else "")

    def several(piece, signs, chance):
        text = piece()
        while rng.random() < chance:
            text += rng.choice(signs) + piece()
        return text

    return several(lambda: several(lambda: several(power, ":", 0.2), "*/", 0.3), "+-", 0.4)


class MeaningTest(Case):
    def reads(self, text, wanted):
        self.assertEqual(str(read_formula(text)), wanted, text)

    def test_each_operator(self):
        for text, wanted in (
            ("a", "a"), ("a + b", "a + b"), ("b + a + b", "b + a"), ("a - a", "1"), ("a + b - a", "b"), ("a - b", "a"),
            ("b:a", "a:b"), ("b in a", "a:b"), ("a:a", "a"), ("a*b", "a + b + a:b"), ("b*a", "b + a + a:b"),
            ("a/b", "a + a:b"), ("b/a", "b + a:b"), ("a^1", "a"), ("a^9", "a"), ("(a + b)^2", "a + b + a:b"),
            ("(a + b):(c + d)", "a:c + a:d + b:c + b:d"), ("(a + b)/c", "a + b + a:b:c"), ("a/(b + c)", "a + a:b + a:c"),
            ("a/b/c", "a + a:b + a:b:c"), ("(a - a)/b", "b"), ("(a - a)*b", "b"), ("(a - a):b", "1"), ("(a - a)^3", "1"),
            ("(a + b - b)/c", "a + a:c"), ("(a + b + c)^3 - a:b:c", "a + b + c + a:b + a:c + b:c"),
            ("(a + b + c + d)^2", "a + b + c + d + a:b + a:c + a:d + b:c + b:d + c:d"),
        ):
            self.reads(text, wanted)

    def test_levels_of_operators(self):
        for text, wanted in (
            ("a + b*c", "a + b + c + b:c"), ("a*b:c", "a + b:c + a:b:c"), ("a:b*c", "c + a:b + a:b:c"),
            ("a:b/c", "a:b + a:b:c"), ("a/b:c", "a + a:b:c"), ("a/b*c", "a + c + a:b + a:c + a:b:c"),
            ("a*b/c", "a + b + a:b + a:b:c"), ("a:b^2", "a:b"), ("a in b*c", "c + a:b + a:b:c"), ("a - b + b", "a + b"),
            ("a + b - (a + b)", "1"), ("a + (b - a)", "a + b"), ("a - (b - a)", "a"), ("a:(b + c)^2", "a:b + a:c + a:b:c"),
            ("a - a + b + a", "b + a"), ("(a - a + b + a)", "b + a"), ("a/b in c", "a + a:b:c"), ("a - a*b", "1"),
        ):
            self.reads(text, wanted)

    def test_the_constant(self):
        for text, wanted in (
            ("1", "1"), ("0", "0"), ("0 + 1", "1"), ("1 + 0", "0"), ("a + 0", "0 + a"), ("a - 1", "0 + a"),
            ("a - 1 + 1", "a"), ("0 + a + 1", "a"), ("0 + 0", "0"), ("1 - 1", "0"), ("1 - 1 - 1", "0"), ("1 - 1 + a + 1 + 1", "a"),
            ("(a - a)", "1"), ("0 + (a - a)", "0"), ("y ~ 0", "y ~ 0"), ("y ~ a - 1", "y ~ 0 + a"), ("0 - a", "0"),
        ):
            self.reads(text, wanted)

    def test_blanks(self):
        for text in ("y~a+b:c", "y ~ a + b : c", "   y~a   +b:  c   ", "y ~a+ b in c", "y~a+(b)in(c)", "y~(a)+(b:c)^1"):
            self.reads(text, "y ~ a + b:c")
        self.reads("inn", "inn")
        self.reads("a in inn", "a:inn")
        self.reads("x1 + x2", "x1 + x2")
        self.reads("abcdefgh", "abcdefgh")

    def test_on_random_texts(self):
        rng = random.Random(1)
        for _ in range(400):
            text = random_text(rng, 2)
            if rng.random() < 0.3:
                text = rng.choice(("0+", "1+", "0+1-")) + text
            if text.startswith("0+1-"):
                text = text.replace("0+1-", "0+1-1+")
            self.assertEqual(read_formula(text).terms, naive(text), text)
            spread = " ".join(text).replace(":", "in")
            self.assertEqual(read_formula(spread), read_formula(text))


class ErrorsTest(Case):
    def test_no_text(self):
        for value in wrong_values():
            if not isinstance(value, str) or "\n" in value:
                self.raises(InvalidFormula, read_formula, value)
        for value in ("a\n", "\t a", "a\x7f", "\u00e4", "a" * 20001, " " * 20001, "a + \u2212", b"a"):
            self.raises(InvalidFormula, read_formula, value)
        self.assertEqual(str(read_formula("a" + " " * 19999)), "a")
        self.parse(0, read_formula, "a" * 20000)

    def test_what_cannot_stand(self):
        for text, spot in (
            ("+ a", 0), ("- a", 0), ("~ a", 0), ("a b", 2), ("a + + b", 4), ("a + - b", 4), ("a 1", 2), ("1 a", 2),
            ("a + 2", 4), ("a - 0", 4), ("a - 10", 4), ("00", 0), ("01", 0), ("10", 0), ("2", 0), ("a:1", 2), ("1:a", 1), ("a*0", 2),
            ("0*a", 1), ("a/1", 2), ("1^2", 1), ("a^0", 2), ("a^10", 2), ("a^b", 2), ("a^(2)", 2), ("a^2^2", 3), ("a^02", 2),
            ("a ^ 2 3", 6), ("(1)", 1), ("(0 + a)", 1), ("(a + 1)", 5), ("(a - 1)", 5), ("()", 1), ("a)", 1), ("(a))", 3),
            ("(a", 2), ("a ~ b ~ c", 6), ("1 ~ a", 2), ("(y) ~ a", 4), ("y + x ~ a", 6), ("in ~ a", 0), ("y ~ ~ a", 4),
            ("y ~ + a", 4), ("if", 0), ("a + else", 4), ("with", 0), ("in", 0), ("a + in", 4), ("a in in", 5), ("a in : b", 5),
            ("a:in b", 2), ("abcdefghi", 0), ("a + abcdefghi", 4), ("a + 1b", 4), ("1b", 0), ("a inb", 2), ("a(b)", 1), ("(a)b", 3),
            ("a + A", 4), ("A", 0), ("a_b", 1), ("a, b", 1), ("a.b", 1), ("!", 0), ("a & b", 2), ("a + $", 4), ("a ** b", 3),
            ("a // b", 3), ("a :: b", 3), ("a^-1", 2), ("a^+1", 2), ("(a]", 2), ("y ~ if", 4), ("try ~ a", 0), ("0 1", 2), ("1 0", 2),
            ("(a + b)(c)", 7), ("a - - 1", 4), ("a - (1)", 5), ("fun", 0), ("stop", 0), ("text", 0), ("%", 0), ("a^1b", 2),
        ):
            with self.subTest(text=text):
                self.parse(spot, read_formula, text)

    def test_texts_that_end_too_early(self):
        for text in (
            "", " ", "    ", "a +", "a + ", "a -", "a *", "a /   ", "a :", "a in", "a in ", "a ^", "a ^ ", "(", "(a", "(a +", "( a  ",
            "y ~", "y ~  ", "((a)", "a + (b * (c", "(a - ", "0 +", "1 - ",
        ):
            with self.subTest(text=text):
                self.parse(len(text), read_formula, text)

    def test_the_first_wrong_token_is_told(self):
        self.parse(2, read_formula, "a b A")
        self.parse(0, read_formula, "A b c")
        self.parse(4, read_formula, "a + A + (")

    def test_twenty_parentheses(self):
        self.assertEqual(str(read_formula("(" * 20 + "a" + ")" * 20)), "a")
        self.assertEqual(str(read_formula("(" * 20 + "a" + ")" * 20 + "+" + "(" * 20 + "b" + ")" * 20)), "a + b")
        self.parse(20, read_formula, "(" * 21 + "a" + ")" * 21)
        self.parse(20, read_formula, "(" * 21)
        self.parse(20, read_formula, "(" * 10000)
        self.parse(20, read_formula, "(" * 20)
        self.parse(6 + 20, read_formula, "(a) + " + "(" * 21 + "a" + ")" * 21)
        self.parse(8 + 20, read_formula, "((a)) + " + "(" * 21 + "a" + ")" * 21)
        self.parse(4 + 21, read_formula, "a + (" + "(" * 19 + " (" + "a")

    def test_the_response(self):
        self.raises(InvalidFormula, read_formula, "y ~ y")
        self.raises(InvalidFormula, read_formula, "y ~ a + b:y")
        self.raises(InvalidFormula, read_formula, "y ~ a + y - y")
        self.raises(InvalidFormula, read_formula, "y ~ a:(b - y)")
        self.parse(8, read_formula, "y ~ y + ")
        self.parse(8, read_formula, "y ~ y + 3")
        self.assertEqual(read_formula("yy ~ y").response, "yy")

    def test_nine_names(self):
        nine = "a + b + c + d + e + f + g + h + i"
        self.assertEqual(len(read_formula(nine).names), 9)
        self.assertEqual(read_formula("y ~ " + nine).response, "y")
        self.too_many(9, read_formula, nine + " + j")
        self.too_many(9, read_formula, nine + " - j")
        self.too_many(9, read_formula, nine + " + j - j")
        self.too_many(9, read_formula, "a*b*c*d*e*f*g*h*i*j")
        self.raises(InvalidFormula, read_formula, "y ~ " + nine + " + y")
        self.parse(len(nine) + 8, read_formula, nine + " + j + k)")

    def test_two_hundred_terms(self):
        seven = "a*b*c*d*e*f*g"
        self.assertEqual(len(read_formula(seven)), 128)
        self.too_many(200, read_formula, "a*b*c*d*e*f*g*h")
        self.too_many(200, read_formula, "a*b*c*d*e*f*g*h - a*b*c*d*e*f*g*h")
        self.too_many(200, read_formula, "(a*b*c*d*e*f*g*h):i")
        self.too_many(200, read_formula, "(a+b+c+d+e+f+g+h)^5 - (a+b+c+d+e+f+g+h)^4 + a")
        self.assertEqual(len(read_formula("(a+b+c+d+e+f+g+h+i)^3")), 130)
        self.too_many(200, read_formula, "(a+b+c+d+e+f+g+h+i)^4")
        more = [f"h:{name}" for name in ("a", "b", "c", "d", "e", "f", "g")]
        crossed = [f"i:{one}:{other}" for one in "abcdefg" for other in "abcdefg" if one < other]
        extra = more + crossed + ["h", "i"] + [f"h:i:{name}" for name in "abcdefg"] + [f"i:{name}" for name in "abcdefg"]
        extra = extra + [f"h:{one}:{other}" for one in "abcdefg" for other in "abcdefg" if one < other]
        extra = extra + [f"h:i:{one}:{other}" for one in "abcdefg" for other in "abcdefg" if one < other]
        right = " + ".join([seven] + extra[:72])
        self.assertEqual(len(read_formula(right)), 200)
        self.too_many(200, read_formula, right + " + " + extra[72])
        self.too_many(200, read_formula, f"{right} + {extra[72]} - {extra[72]}")
        self.assertEqual(len(read_formula(f"{right} - {extra[0]} + {extra[72]}")), 200)
        self.assertEqual(len(read_formula(f"0 + {right} + {extra[72]}")), 200)
        self.too_many(200, read_formula, f"0 + {right} + {extra[72]} + 1")
        self.assertEqual(len(read_formula(f"0 + ({right} + {extra[72]})")), 200)
        self.too_many(200, read_formula, f"({right} + {extra[72]}) - 1")
        self.too_many(200, read_formula, f"0 + ({right} + {extra[72]} + {extra[73]} - {extra[0]})")

    def test_which_error_comes_first(self):
        ten = "a*b*c*d*e*f*g*h*i*j"
        self.too_many(9, read_formula, ten)
        self.raises(InvalidFormula, read_formula, f"j ~ {ten}")
        self.parse(len(ten), read_formula, ten + ")")
        self.too_many(200, read_formula, "y ~ a*b*c*d*e*f*g*h*i")

    def test_long_texts_end(self):
        self.assertEqual(len(read_formula("+".join(["a"] * 10000))), 2)
        self.assertEqual(len(read_formula(":".join(["(a*b*c*d*e*f*g)"] * 300))), 128)
        self.assertEqual(len(read_formula("/".join(["(a + b)^2"] * 1000))), 4)

    def test_every_text_is_read_or_refused(self):
        rng = random.Random(2)
        read = 0
        for _ in range(3000):
            text = "".join(rng.choice("ab10 2~+-*/:^()in") for _ in range(rng.randint(0, 9)))
            try:
                formula = read_formula(text)
                self.assertEqual(read_formula(str(formula)), formula)
                read += 1
            except ParseError as error:
                self.assertTrue(0 <= error.spot <= len(text))
                self.assertTrue(error.spot == len(text) or text[error.spot] != " ")
            except (InvalidFormula, TooMany):
                pass
        self.assertGreater(read, 100)
