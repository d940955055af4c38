"""Stage 12: trees and their texts."""

import random

from tests.programs import program
from tests.support import Case, r, wrong_values
from worthstead.errors import InvalidTree, ParseError
from worthstead.formulas.formulas import Formula
from worthstead.lang.reader import read_expression, read_program
from worthstead.lang.trees import is_expression, is_program
from worthstead.lang.writer import write_expression, write_program

A, B, C = ("name", "a"), ("name", "b"), ("name", "c")
ONE = ("number", 1)
BINARY = {"|": 1, "&": 2, "==": 4, "<": 4, "<=": 4, "+": 5, "-": 5, "*": 6, "/": 6}
# A tree of each kind with its text and its level.
EACH = [
    (("fun", (("x", None), ("y", ("number", 2))), A), "fun(x, y = 2) a", 0), (("fun", (), A), "fun() a", 0),
    (("if", A, B, C), "if (a) b else c", 0), (("with", A, B), "with (a) b", 0),
    (("op", "|", A, B), "a | b", 1), (("op", "&", A, B), "a & b", 2), (("op", "!", A), "!a", 3),
    (("op", "==", A, B), "a == b", 4), (("op", "<", A, B), "a < b", 4), (("op", "<=", A, B), "a <= b", 4),
    (("op", "+", A, B), "a + b", 5), (("op", "-", A, B), "a - b", 5), (("op", "*", A, B), "a * b", 6),
    (("op", "/", A, B), "a / b", 6), (("op", "-", A), "-a", 7),
    (("call", A, ((None, B), ("x", C))), "a(b, x = c)", 8), (("call", A, ()), "a()", 8), (("pick", A, "x"), "a$x", 8),
    (("number", 12), "12", 9), (("string", "s + 't'"), "\"s + 't'\"", 9), (("string", ""), '""', 9),
    (("truth", True), "TRUE", 9), (("truth", False), "FALSE", 9), (("gone",), "GONE", 9), (A, "a", 9),
    (("formula", "y ~ a"), "(y ~ a)", 9), (("formula", "0 + a:b"), "(~ 0 + a:b)", 9), (("formula", "1"), "(~ 1)", 9),
    (("block", ()), "{}", 9), (("block", (A,)), "{ a }", 9), (("block", (("set", "x", A), B)), "{ x <- a; b }", 9),
    (("try", A, B), "try(a, b)", 9), (("stop", A), "stop(a)", 9), (("text", "x"), "text(x)", 9),
]


def nested(depth):
    """A tree so deep."""
    tree = ONE
    for _ in range(depth - 1):
        tree = ("op", "-", tree)
    return tree


class TreesTest(Case):
    def both(self, tree, text):
        """The tree has this text, which reads back."""
        self.assertTrue(is_expression(tree))
        self.assertEqual(write_expression(tree), text)
        self.assertEqual(read_expression(text), tree)
        self.assertEqual(read_program(text), (tree,))
        self.assertEqual(write_program((tree, ("set", "z", tree))), f"{text}\nz <- {text}")
        self.assertEqual(read_program(f"{text}\nz <- {text}"), (tree, ("set", "z", tree)))

    def test_each_kind(self):
        for tree, text, _ in EACH:
            with self.subTest(text=text):
                self.both(tree, text)

    def in_brackets(self, text, level, least):
        return text if level >= least else f"({text})"

    def test_each_within_each(self):
        for tree, text, level in EACH:
            for sign, own in BINARY.items():
                left = self.in_brackets(text, level, own + 1 if own == 4 else own)
                self.both(("op", sign, tree, B), f"{left} {sign} b")
                self.both(("op", sign, B, tree), f"b {sign} {self.in_brackets(text, level, own + 1)}")
            self.both(("op", "!", tree), "!" + self.in_brackets(text, level, 3))
            self.both(("op", "-", tree), "-" + self.in_brackets(text, level, 7))
            self.both(("call", tree, ((None, tree), ("x", tree))), f"{self.in_brackets(text, level, 8)}({text}, x = {text})")
            self.both(("pick", tree, "q"), f"{self.in_brackets(text, level, 8)}$q")
            self.both(("fun", (("p", tree),), tree), f"fun(p = {text}) {text}")
            self.both(("if", tree, tree, tree), f"if ({text}) {text} else {text}")
            self.both(("with", tree, tree), f"with ({text}) {text}")
            self.both(("try", tree, tree), f"try({text}, {text})")
            self.both(("stop", tree), f"stop({text})")
            self.both(("block", (tree, ("set", "x", tree))), f"{{ {text}; x <- {text} }}")

    def test_by_chance(self):
        rng = random.Random(1201)
        written = 0
        for _ in range(400):
            made = program(rng, depth=rng.randint(1, 6))
            if is_program(made):
                text = write_program(made)
                if len(text) <= 4000:
                    written += 1
                    self.assertEqual(read_program(text), made)
        self.assertGreater(written, 300)

    def test_levels_from_the_left(self):
        for one, two in (("a - b - c", "(a - b) - c"), ("a / b * c", "(a / b) * c"), ("a | b | c", "(a | b) | c"),
                         ("a + b * c", "a + (b * c)"), ("!a == b", "!(a == b)"), ("!a & b", "(!a) & b"),
                         ("-a * b", "(-a) * b"), ("-a$x", "-(a$x)"), ("a & !b == c | d", "(a & (!(b == c))) | d"),
                         ("fun(x) x + 1", "fun(x) (x + 1)"), ("if (a) b else c + d", "if (a) b else (c + d)"),
                         ("with (a) b(c)", "with (a) (b(c))"), ("a * -b + c", "(a * (-b)) + c"),
                         ("if (a) if (b) c else d else e", "if (a) (if (b) c else d) else e"),
                         ("fun(x) fun(y) x(y)(z)", "fun(x) (fun(y) ((x(y))(z)))"), ("{ a }(b)", "({ a })(b)")):
            self.assertEqual(read_expression(one), read_expression(two))

    def test_brackets_make_no_tree(self):
        self.assertEqual(read_expression("((1))"), ONE)
        self.assertEqual(read_expression("(" * 1999 + "1" + ")" * 1999), ONE)
        self.assertEqual(read_expression("(a)(b)"), ("call", A, ((None, B),)))
        self.assertEqual(read_expression("((a == b)) == c"), ("op", "==", ("op", "==", A, B), C))

    def test_blanks_and_zeros(self):
        self.assertEqual(read_program("  x<-1 ;;  \n\n x<-x+1;"), (("set", "x", ONE), ("set", "x", ("op", "+", ("name", "x"), ONE))))
        self.assertEqual(read_program("x< -1"), (("op", "<", ("name", "x"), ("op", "-", ONE)),))
        self.assertEqual(read_program("x<-1"), (("set", "x", ONE),))
        self.assertEqual(read_program("a<=b;a==b;a$b"), (("op", "<=", A, B), ("op", "==", A, B), ("pick", A, "b")))
        self.assertEqual(read_expression("0007"), ("number", 7))
        self.assertEqual(read_expression("0"), ("number", 0))
        self.assertEqual(read_expression("fun ( x , y=1 ) x"), ("fun", (("x", None), ("y", ONE)), ("name", "x")))
        self.assertEqual(read_expression('  "  a  "  '), ("string", "  a  "))
        for text in ("", " ", "\n", ";", " ;\n; "):
            self.assertEqual(read_program(text), ())
        self.assertEqual(read_program("{;\n; }"), (("block", ()),))
        self.assertEqual(write_program(()), "")
        self.assertEqual(read_program("fun1"), (("name", "fun1"),))

    def test_newlines(self):
        self.assertEqual(read_program("a\n(b)"), (A, B))
        self.assertEqual(read_program("(a\n(\nb)\n)"), (("call", A, ((None, B),)),))
        self.assertEqual(read_program("a(\nb\n,\nx\n=\nc\n)"), (("call", A, ((None, B), ("x", C))),))
        self.assertEqual(read_program("a({\nb\nc })"), (("call", A, ((None, ("block", (B, C))),)),))
        self.assertEqual(read_program("{ (a\n+\nb)\n}"), (("block", (("op", "+", A, B),)),))
        self.assertEqual(read_program("fun(\nx\n=\n1\n) a"), (("fun", (("x", ONE),), A),))
        self.assertEqual(read_program("if (\na\n) b else c"), (("if", A, B, C),))
        self.assertEqual(read_program("(if (a) b\nelse\nc)"), (("if", A, B, C),))
        self.assertEqual(read_program("try(\na,\nb\n); stop(\na\n); text(\nx\n)"), (("try", A, B), ("stop", A), ("text", "x")))
        self.assertEqual(read_program("(y\n~\na\n+ b)"), (("formula", "y ~ a + b"),))
        for text, spot in (
            ("a +\nb", 3), ("if (a) b\nelse c", 8), ("{ (a)\n+ b }", 6), ("fun(x)\nx", 6), ("a$\nb", 2), ("x <-\n1", 4),
            ("({ a +\nb })", 6), ("!\na", 1), ("with (a)\nb", 8),
        ):
            self.parse(spot, read_program, text)
        for text, spot in (("\na", 0), ("a\n", 1), ("a\n + b", 1), ("a;", 1), (";a", 0), ("x <- a", 2)):
            self.parse(spot, read_expression, text)

    def test_formulas(self):
        for text, inner in (
            ("(~ a)", "a"), ("(~a*b)", "a + b + a:b"), ("(y~a in b)", "y ~ a:b"), ("(~ 0)", "0"), ("(y ~ (a + b)^2)", "y ~ a + b + a:b"),
            ("(~ y ~ a)", "y ~ a"), ("(y ~ 1)", "y ~ 1"),
        ):
            self.assertEqual(read_expression(text), ("formula", inner))
        self.assertEqual(read_expression("((y ~ a))"), ("formula", "y ~ a"))
        self.assertEqual(read_expression("m(t, (y ~ a))$x"), ("pick", ("call", ("name", "m"), ((None, ("name", "t")), (None, ("formula", "y ~ a")))), "x"))
        self.assertEqual(read_expression("(y ~ a) == (~ b)"), ("op", "==", ("formula", "y ~ a"), ("formula", "b")))
        for text, spot in (
            ("(y ~ a + )", 9), ("(y ~ a", 6), ("(~", 2), ("(~)", 2), ("(~ a ^ 0)", 7), ("(y ~ y)", 6), ("(y ~ y", 6), ("(y ~ a b)", 7),
            ("(~ a{)", 4), ("(~ A)", 3), ("(~ " + "+".join("abcdefghij") + ")", 22), ("(~ (a+b+c+d+e+f+g+h)^8)", 23),
            ("a(y ~ b)", 4), ("if (y ~ a) b else c", 6), ("try(y ~ a, b)", 6), ("y ~ a", 2), ("~ a", 0), ("(2 ~ a)", 3), ("(in ~ a)", 1),
            ("(TRUE ~ a)", 6), ("(y ~ a ~ b)", 7), ("(~ y ~ a ~ b)", 9), ("1 + (y ~ a + in)", 13),
        ):
            with self.subTest(text=text):
                if text == "(~ (a+b+c+d+e+f+g+h)^8)":
                    self.parse(len(text) - 1, read_expression, text)
                else:
                    self.parse(spot, read_expression, text)

    def test_spots(self):
        long_number = "1" * 61
        for text, spot in (
            ("", 0), ("1 +", 3), ("(1", 2), ("{ 1", 3), ("f(1", 3), ("f(", 2), ("a$", 2), ("fun(x", 5), ("fun(x)", 6), ("x <-", 4),
            ("1 2", 2), ("12ab", 2), ("a b", 2), ("a @", 2), ("@", 0), ("a 'b'", 2), ("a # b", 2), ("1.5", 1), ("a_b", 1), ("a != b", 2),
            ('"abc', 0), ('a + "abc', 4), ('"a\nb"', 0), ("abcdefghi", 0), ("Abc", 0), ("a$B", 2), ("a$in", 2), ("in", 0), ("else", 0),
            (long_number, 0), ("a + " + long_number, 4), ("a == b == c", 7), ("a < b <= c", 6), ("a + !b", 4), ("a == !b", 5), ("-!a", 1),
            ("a + fun(x) x", 4), ("a * if (b) c else d", 4), ("-with (a) b", 1), ("!fun() a", 1), ("a <- b <- c", 7), ("f(a <- b)", 4),
            ("(a <- b)", 3), ("1 <- b", 2), ("f(a = b = c)", 8), ("f(1 = b)", 4), ("f(, a)", 2), ("f(a,)", 4), ("f(a b)", 4), ("fun(1) a", 4),
            ("fun(x, x) a", 7), ("fun(x = 1, y, x = 2) a", 14), ("fun(x,) a", 6), ("fun(x = 1,) a", 10), ("fun(x = 1 y) a", 10), ("fun x", 4), ("fun(if) a", 4), ("if a", 3), ("if (a, b)", 5),
            ("if (a) b", 8), ("if (a) b c", 9), ("try(a)", 5), ("try(a, b, c)", 8), ("try a", 4), ("stop(a, b)", 6), ("stop()", 5), ("text(1)", 5),
            ("text(a, b)", 6), ("text(in)", 5), ("with (a, b) c", 7), ("{ a )", 4), ("(a }", 3), ("( a; b)", 3), ("}", 0), (")", 0), ("a)", 1),
            ("TRUE <- 1", 5), ("a , b", 2), ("a = b", 2), ("f(TRUE = 1)", 7), ("()", 1), ("a$1", 2), ("a : b", 2), ("a ^ 2", 2), ("a else b", 2),
        ):
            with self.subTest(text=text):
                self.parse(spot, read_program if text else read_expression, text)

    def test_the_first_of_several(self):
        self.parse(2, read_program, "1 2 3 @")
        self.parse(2, read_program, "a ) @")
        self.parse(0, read_program, "@ )")
        self.parse(3, read_program, '1; + "')
        # The text ends too early only if all that is there could stand.
        self.parse(3, read_program, "(((@")
        self.parse(3, read_program, "(((")

    def test_eight_parameters_and_arguments(self):
        names = "abcdefgh"
        eight = f"fun({', '.join(names)}) a"
        self.assertEqual(len(read_expression(eight)[1]), 8)
        self.parse(eight.index(")"), read_expression, eight.replace(")", ", i)"))
        self.parse(eight.index(")") + 4, read_expression, eight.replace(")", " = 1, i)"))
        call = "f(" + ", ".join("12345678") + ")"
        self.assertEqual(len(read_expression(call)[2]), 8)
        self.parse(len(call) - 1, read_expression, call[:-1] + ", 9)")
        self.parse(len(call) - 1, read_expression, call[:-1] + ",,,")
        params = tuple((name, None) for name in names)
        self.assertTrue(is_expression(("fun", params, A)))
        self.assertFalse(is_expression(("fun", params + (("i", None),), A)))
        self.assertTrue(is_expression(("call", A, ((None, A),) * 8)))
        self.assertFalse(is_expression(("call", A, ((None, A),) * 9)))

    def test_lengths(self):
        self.assertEqual(read_expression('"' + "s" * 400 + '"'), ("string", "s" * 400))
        self.parse(0, read_expression, '"' + "s" * 401 + '"')
        self.assertTrue(is_expression(("string", "s" * 400)))
        self.assertFalse(is_expression(("string", "s" * 401)))
        sixty = "9" * 60
        self.both(("number", int(sixty)), sixty)
        self.assertEqual(read_expression("0" * 59 + "7"), ("number", 7))
        self.parse(0, read_expression, "0" * 60 + "7")
        self.parse(4, read_program, "a + " + "9" * 61)
        self.assertFalse(is_expression(("number", 10 ** 60)))
        self.assertEqual(len(read_program("1;" * 2000)), 2000)
        self.parse(None, read_program, "1;" * 2000 + " ")
        self.assertEqual(read_program(" " * 4000), ())
        self.parse(None, read_program, " " * 4001)
        self.parse(None, read_expression, "1" + " " * 4000)

    def test_thirty_deep(self):
        self.assertEqual(write_expression(nested(30)), "-" * 29 + "1")
        self.assertEqual(read_expression("-" * 29 + "1"), nested(30))
        self.both(nested(29), "-" * 28 + "1")
        self.assertFalse(is_expression(nested(31)))
        for text in ("-" * 30 + "1", "x <- " + "-" * 29 + "1", "{" * 30 + "1" + "}" * 30, "f(" * 30 + "1" + ")" * 30, "!" * 3990 + "1"):
            self.parse(len(text), read_program, text)
        for text in ("x <- " + "-" * 28 + "1", "{" * 29 + "1" + "}" * 29, "f(" * 29 + "1" + ")" * 29, "{" * 30 + "}" * 30):
            self.assertTrue(is_program(read_program(text)))
        self.assertTrue(is_program((("set", "x", nested(29)),)))
        self.assertFalse(is_program((("set", "x", nested(30)),)))
        self.assertTrue(is_program((nested(30),)))
        # Another token that cannot stand comes ahead of too deep trees.
        self.parse(41, read_program, "-" * 40 + "1)")
        self.parse(40, read_program, "{" * 40)
        self.parse(1002, read_program, "{" * 1000 + "1 )")
        for text in ("a + " * 29 + "a", "if (a) b else " * 29 + "c", "fun() " * 29 + "a", "with (a) " * 29 + "a"):
            self.assertTrue(is_expression(read_expression(text)))
        for text in ("a + " * 30 + "a", "if (a) b else " * 30 + "c", "fun() " * 30 + "a", "with (a) " * 30 + "a"):
            self.parse(len(text), read_expression, text)

    def test_2000_trees(self):
        self.assertTrue(is_program((ONE,) * 2000))
        self.assertFalse(is_program((ONE,) * 2001))
        self.assertTrue(is_program((("set", "x", ONE),) * 1000))
        self.assertFalse(is_program((("set", "x", ONE),) * 1000 + (ONE,)))
        self.assertTrue(is_program((("op", "-", ("op", "-", ONE)),) * 666 + (ONE, ONE)))
        self.assertFalse(is_program((("op", "-", ("op", "-", ONE)),) * 666 + (ONE, ONE, ONE)))
        self.assertTrue(is_expression(("block", (ONE,) * 1999)))
        self.assertFalse(is_expression(("block", (ONE,) * 2000)))
        self.assertEqual(len(read_program("--1;" * 666 + "1;1")), 668)
        text = "--1;" * 666 + "1;1;1"
        self.parse(len(text), read_program, text)
        self.parse(3, read_program, "1;1)" + "--1;" * 900)

    def test_wrong_texts(self):
        for call in (read_program, read_expression):
            for value in wrong_values():
                if not isinstance(value, str):
                    self.parse(None, call, value)
            for value in ("a\tb", "\r", "\x7f", "caf\u00e9", "a\x00"):
                self.parse(None, call, value)

    def test_what_is_no_tree(self):
        for value in wrong_values():
            self.assertFalse(is_expression(value))
            self.raises(InvalidTree, write_expression, value)
            if value != ():
                self.assertFalse(is_program(value))
                self.raises(InvalidTree, write_program, value)
        near = [
            ["number", 1], ("number",), ("number", 1, 2), ("number", -1), ("number", True), ("number", "1"), ("number", r(1)),
            ("string", 'a"b'), ("string", "a\nb"), ("string", None), ("truth", 1), ("truth", 0), ("truth", None), ("gone", None),
            ("name", "in"), ("name", "A"), ("name", "abcdefghi"), ("name", ""), ("name", 1), ("name", ("a",)), ("text", "fun"), ("text", A),
            ("formula", "a + a"), ("formula", "~ a"), ("formula", "y~a"), ("formula", "y ~ y"), ("formula", " a"), ("formula", ""),
            ("formula", Formula(((), ("a",)))), ("formula", "b + a:b + a"), ("formula", "1 + a"), ("formula", None),
            ("block", [A]), ("block", A), ("block", (1,)), ("block", (("set", "x", 1),)), ("block", (("set", "in", A),)), ("block",),
            ("op", "+", A), ("op", "!", A, B), ("op", "%", A, B), ("op", "<-", A, B), ("op", "-"), ("op", "-", A, B, C), ("op", None, A),
            ("op", "-", 1), ("op", "+", A, None), ("op", ["+"], A, B), ("Op", "+", A, B),
            ("call", A), ("call", A, A), ("call", A, (A,)), ("call", A, ((None, 1),)), ("call", A, (("in", A),)), ("call", A, [(None, A)]),
            ("call", A, ((None, A, A),)), ("call", A, ([None, A],)), ("call", A, ((1, A),)), ("call", 1, ()),
            ("fun", (), 1), ("fun", (("x", 1),), A), ("fun", (("x", None), ("x", A)), A), ("fun", (("in", None),), A), ("fun", ("x",), A),
            ("fun", [("x", None)], A), ("fun", ((None, A),), A), ("fun", A), ("pick", A), ("pick", A, "if"), ("pick", A, A), ("pick", 1, "a"),
            ("if", A, B), ("if", A, B, C, C), ("with", A), ("with", A, 1), ("try", A), ("try", A, B, C), ("stop",), ("stop", "a"), ("stop", A, B),
            ("set", "x", A), ("set", "x"), (), ("a",), ((),), (None,), ("number", 10 ** 61), ("string", ("a",)), (["number"], 1),
        ]
        for value in near:
            with self.subTest(value=value):
                self.assertFalse(is_expression(value))
                self.raises(InvalidTree, write_expression, value)
                if value and value[0] != "set":
                    self.assertFalse(is_program((value,)))
                    self.assertFalse(is_expression(("block", (A, value))))
        for value in (("set", "x", A), ("set", "x", A, B)[:2], [A], (A, None), (("set", "in", A),), (("set", "x", ("set", "y", A)),)):
            self.assertFalse(is_program(value))
            self.raises(InvalidTree, write_program, value)
        for value in (("foo", "x", A), ("Set", "x", A), ("x", "set", A), (None, "x", A), (("set",), "x", A), ("put", "x", A)):
            self.assertFalse(is_program((value,)))
            self.assertFalse(is_expression(("block", (value,))))
        self.assertTrue(is_program((("set", "x", A),)))
        self.assertTrue(is_expression(("string", "~ !#$%&'()*+,-./09:;<=>?@AZ[\\]^_`az{|}~")))
        self.assertEqual(read_expression('"~ %_^`"'), ("string", "~ %_^`"))

    def test_errors_are_parse_errors(self):
        rng = random.Random(1202)
        characters = 'ab x1"~+-*/<=!&|(){},;$\n:^@ fun if else TRUE'
        for _ in range(3000):
            text = "".join(rng.choice(characters) for _ in range(rng.randint(1, 14)))
            for call, write in ((read_program, write_program), (read_expression, write_expression)):
                try:
                    tree = call(text)
                except ParseError as e:
                    self.assertTrue(0 <= e.spot <= len(text))
                    # What stands ahead of the spot could stand, so that alone it ends too early, or is right.
                    if '"' not in text and "~" not in text:
                        self.assertEqual(self.spot_of(call, text[:e.spot]), e.spot)
                else:
                    self.assertEqual(call(write(tree)), tree)

    def spot_of(self, call, text):
        try:
            call(text)
        except ParseError as e:
            return e.spot
        return len(text)
