"""Stage 12: what programs do."""

import random

from tests.programs import program
from tests.slow_runs import Slow, slow_outcome, text_of
from tests.support import Case, wrong_values
from worthstead.errors import InvalidTree
from worthstead.lang.reader import read_program
from worthstead.lang.runs import Run, outcome
from worthstead.lang.trees import is_program

TABLE = 'table("rows 4;factor a lo,hi lo hi lo hi;factor b lo,hi lo lo hi hi;number y 1 2 4 ?;")'
MODEL = f"model({TABLE}, (y ~ a))"


class RunsTest(Case):
    def outcome(self, text):
        """The outcome of a text, which is the same by the rules as they are told once more."""
        made = read_program(text)
        found = outcome(made)
        self.assertEqual(found, slow_outcome(made))
        return found

    def done(self, text, value, lines=(), steps=None):
        end, printed, counted = self.outcome(text)
        self.assertEqual((end, printed), (("done", value), lines))
        if steps is not None:
            self.assertEqual(counted, steps)

    def fault(self, text, word, note="", index=0, steps=None):
        end, _, counted = self.outcome(text)
        self.assertEqual(end, ("fault", word, note, index))
        if steps is not None:
            self.assertEqual(counted, steps)

    def values(self, *pairs):
        for text, value in pairs:
            with self.subTest(text=text):
                self.done(text, value)

    def faults(self, *several):
        for text, *rest in several:
            with self.subTest(text=text):
                self.fault(text, *rest)


class ValuesTest(RunsTest):
    def test_literals(self):
        self.values(
            ("12", "12"), ('"s t"', "s t"), ('""', ""), ("TRUE", "TRUE"), ("FALSE", "FALSE"), ("GONE", "GONE"), ("", "GONE"),
            ("{}", "GONE"), ("{ 1; 2 }", "2"), ("x <- 3", "3"), ("{ x <- 3 }\nx", "3"), ("(y ~ a*b)", "y ~ a + b + a:b"), ("(~ 0)", "0"),
            ("fun(x, y = x + 1) { x }", "fun(x, y = x + 1) { x }"), ("print", "print"), ("plan", "plan"), ("f <- show; f", "show"),
            (TABLE, "table of 4 rows: a factor, b factor, y number"), (f"{TABLE}$y", "table of 4 rows: y number"),
            ('plan(2, "a b c", "111")', "plan of 4 runs, 3 factors of 2"), (MODEL, "model of 2 columns"), (f"fit({MODEL})", "fit of 2 columns"),
            ("2/4", "1/2"), ("show(1/3)", "1/3"), ("show(GONE)", "GONE"), ("show(show)", "show"), ("fun() (1)", "fun() 1"),
        )

    def test_operators(self):
        self.values(
            ("1 + 2", "3"), ('"a" + "b"', "ab"), ("1 - 3", "-2"), ("2 * 3", "6"), ("2 / 4", "1/2"), ("-(1 / 2)", "-1/2"), ("--1", "1"),
            ("1 < 2", "TRUE"), ("2 < 2", "FALSE"), ("2 <= 2", "TRUE"), ("3 <= 2", "FALSE"), ("!TRUE", "FALSE"), ("!FALSE", "TRUE"),
            ("TRUE & FALSE", "FALSE"), ("TRUE & TRUE", "TRUE"), ("FALSE | TRUE", "TRUE"), ("FALSE | FALSE", "FALSE"),
            ("1 == 1", "TRUE"), ("1 == 2/2", "TRUE"), ("1 == TRUE", "FALSE"), ('1 == "1"', "FALSE"), ("GONE == GONE", "TRUE"), ("GONE == FALSE", "FALSE"),
            ('"a" == "a"', "TRUE"), ("TRUE == FALSE", "FALSE"), ("(y ~ a) == (y ~ a)", "TRUE"), ("(y ~ a) == (~ a)", "FALSE"),
            (f"{TABLE} == {TABLE}", "TRUE"), (f"{TABLE} == {TABLE}$y", "FALSE"), (f"{TABLE} == 1", "FALSE"),
            ('plan(2, "a b", "11") == plan(2, "a b", "11")', "TRUE"), ('plan(2, "a b", "11") == plan(2, "a b", "")', "FALSE"),
        )
        kinds = {
            "ratio": "2", "text": '"t"', "truth": "TRUE", "gone": "GONE", "function": "fun() 1", "package": "show", "formula": "(~ a)",
            "table": TABLE, "plan": 'plan(2, "a", "")', "model": MODEL, "fit": f"fit({MODEL})",
        }
        for one, left in kinds.items():
            for other, right in kinds.items():
                for sign in ("+", "-", "*", "/", "<", "<=", "&", "|", "=="):
                    right_ones = {"+": ("ratio", "text"), "&": ("truth",), "|": ("truth",)}.get(sign, ("ratio",))
                    found = self.outcome(f"({left}) {sign} ({right})")[0]
                    if sign == "==":
                        is_right = not {one, other} & {"function", "package", "model", "fit"}
                    else:
                        is_right = one == other and one in right_ones
                    self.assertEqual(found[0], "done" if is_right else "fault", (one, sign, other))
                    if not is_right:
                        self.assertEqual(found, ("fault", "kind", "", 0))
            for sign, right_one in (("-", "ratio"), ("!", "truth")):
                found = self.outcome(f"{sign}({left})")[0]
                self.assertEqual(found[0], "done" if one == right_one else "fault", (sign, one))

    def test_both_operands_from_the_left(self):
        self.done('{ print("a"); FALSE } & { print("b"); TRUE }', "FALSE", ("a", "b"))
        self.done('{ print("a"); TRUE } | { print("b"); TRUE }', "TRUE", ("a", "b"))
        self.done('try({ print("a"); 1 } + { print("b"); "x" }, fun(w, t) w)', "kind", ("a", "b"))
        self.done('x <- 1; { x <- 5; 1 } + x', "6")
        self.faults(('stop("a") + stop("b")', "stop", "a"), ('1 + stop("b")', "stop", "b"), ('GONE + stop("b")', "stop", "b"))

    def test_zero_and_great(self):
        self.faults(("1 / 0", "zero"), ("0 / 0", "zero"), ("x <- 1 - 1\n2 / x", "zero", "", 1))
        half = '"' + "s" * 200 + '"'
        self.done(f"{half} + {half}", "s" * 400)
        self.faults((f'{half} + {half} + "t"', "great"), (f'f <- fun(x) text(x); f({half} + {half})', "great", "", 1))
        self.fault("show(fun() { " + "; ".join(["aaaaaaaa"] * 40) + " })", "great", "", 0, 20)
        # The end has a text of any length.
        long = "fun() { " + "; ".join(["aaaaaaaa"] * 100) + " }"
        self.done(long, long)
        self.fault(f"print({long})", "great", steps=20)

    def test_long_ratios(self):
        big = "9" * 60
        square = "; ".join(["x <- x * x"] * 5)
        self.fault(f"x <- {big}\n{square}; x <- x * x", "TooMany", "2000", 6)
        end, _, _ = self.outcome(f"x <- {big}\n{square}; show(1 == 1)")
        self.assertEqual(end, ("done", "TRUE"))
        end, _, _ = self.outcome(f"x <- {big}\n{square}")
        self.assertEqual(end[1], str(int(big) ** 32))
        self.fault(f"x <- {big}\n{square}; show(x)", "great", "", 6)

    def test_if(self):
        self.values(("if (TRUE) 1 else 2", "1"), ("if (FALSE) 1 else 2", "2"), ("if (1 < 2) { x <- 3 } else 4\nx", "3"))
        self.done('if (TRUE) print("a") else print("b")', "a", ("a",))
        for text in ("1", '"TRUE"', "GONE", "0", "fun() TRUE", "(~ a)"):
            self.fault(f"if ({text}) 1 else 2", "truth")

    def test_stop(self):
        self.faults(('stop("a b")', "stop", "a b"), ('stop("")', "stop"), ("stop(1)", "kind"), ("stop(GONE)", "kind"), ("1\nstop(\"x\")", "stop", "x", 1))

    def test_unknown(self):
        self.faults(("x", "unknown", "x"), ("x(1)", "unknown", "x"), (f"{TABLE}$z", "unknown", "z"), ("1$a", "kind"), ("GONE$a", "kind"),
                    ("f <- fun() x; f()", "unknown", "x", 1), ("with (1) 2", "kind"), ("1(2)", "kind"), ('"f"(2)', "kind"), ("1(stop(\"a\"))", "kind"))


class PlacesTest(RunsTest):
    def test_calls(self):
        self.values(
            ("x <- 1; f <- fun() x; x <- 2; f()", "2"), ("x <- 1; f <- fun() { x <- 5; x }; f()", "5"), ("x <- 1; f <- fun() { x <- 5; x }; f(); x", "1"),
            ("f <- fun(x) fun() { x <- x + 1; x }; g <- f(1); g(); g()", "2"), ("f <- fun() { x <- 1; fun() x }; f()()", "1"),
            ("f <- fun(x) fun(y) x + y; f(1)(2)", "3"), ("f <- fun(n) if (n <= 0) 0 else n + f(n - 1); f(20)", "210"),
            ("x <- 1; f <- fun(y) { x <- 7; y }; f(x)", "1"), ("f <- fun(g) { x <- 2; g() }; x <- 1; f(fun() x)", "1"),
            ("print <- 3; print", "3"), ("f <- fun() { print <- fun(x) x; print(4) }; f()", "4"), ("{ x <- 1; y <- 2 }; x + y", "3"),
        )
        self.fault("f <- fun() { x <- 1 }; f(); x", "unknown", "x", 2)

    def test_blocks_make_no_place(self):
        self.done("x <- 1; { x <- 2; { x <- 3 } }; x", "3")
        self.done("f <- fun(a) { a; x }; x <- 1; f({ x <- 9 })", "9")

    def test_with(self):
        self.values(
            (f"with ({TABLE}) y", "table of 4 rows: y number"), (f"y <- 1; with ({TABLE}) y", "table of 4 rows: y number"),
            (f"y <- 1; with ({TABLE}) {{ y <- 2; y }}", "2"), (f"y <- 1; with ({TABLE}) {{ y <- 2 }}; y", "1"), (f"z <- 1; with ({TABLE}) z", "1"),
            (f"with ({TABLE}) with (y) rows(a)", "4"), (f"with ({TABLE}) fun() y", "fun() y"), (f"(with ({TABLE}) fun() y)()", "table of 4 rows: y number"),
            (f"f <- fun(y) with ({TABLE}) y; f(1)", "table of 4 rows: y number"), (f"f <- fun(y) with ({TABLE}$a) y; f(1)", "1"),
            (f"f <- fun(x) {{ y <- 3; x }}; with ({TABLE}) f(y)", "table of 4 rows: y number"), (f"with ({TABLE}) {{ x <- 1; x + 1 }}", "2"),
            (f"f <- fun(y) (with ({TABLE}) {{ y <- 5; y }}) + y; f(1)", "6"), (f"with ({TABLE}$y) y == {TABLE}$y", "TRUE"),
        )
        self.faults((f"with ({TABLE}) {{ x <- 1 }}; x", "unknown", "x", 1), (f"with ({TABLE}) q", "unknown", "q"), ("with (stop(\"a\")) 1", "stop", "a"))

    def test_functions_within_functions(self):
        self.done("f <- fun(x) { g <- fun(y) { h <- fun() x + y; x <- x * 10; h() }; g(1) }; f(2)", "21")
        self.done("f <- fun() { g <- fun() { x <- 2; fun() x }; x <- 1; g()() + x }; f()", "3")


class CallsTest(RunsTest):
    def test_by_name_and_by_order(self):
        text = 'f <- fun(a, b, c) show(a) + show(b) + show(c); '
        self.values(
            (text + "f(1, 2, 3)", "123"), (text + "f(c = 1, 2, 3)", "231"), (text + "f(1, a = 2, 3)", "213"), (text + "f(b = 1, a = 2, 3)", "213"),
            (text + "f(3, c = 1, b = 2)", "321"),
        )
        self.faults(
            (text + "f(1, a = 2, b = 3, 4)", "many", "", 1), (text + "f(1, 2, 3, 4)", "many", "", 1), (text + "f(a = 1, a = 2)", "twice", "a", 1),
            (text + "f(z = 1)", "unknown", "z", 1), (text + "f(z = 1, a = 2, a = 3)", "twice", "a", 1), (text + "f(z = 1, y = 2, 1, 2, 3, 4)", "unknown", "z", 1),
            (text + "f(b = 1, z = 1, a = 1, z = 2, b = 3)", "twice", "z", 1), (text + "f(1, 2)", "lacking", "c", 1), ("fun() 1\n(fun() 1)(2)", "many", "", 1),
        )

    def test_steps_of_what_does_not_match(self):
        self.fault("f <- fun(a) a; f(1, 2)", "many", "", 1, 0)
        self.fault("f <- fun(a) a; f(b = 2)", "unknown", "b", 1, 0)
        self.fault("f <- fun(a) a; f()", "lacking", "a", 1, 1)
        self.fault("f <- fun(a) a; f(a = 1, a = 1)", "twice", "a", 1, 0)

    def test_the_function_comes_first(self):
        self.fault('stop("f")(stop("a"))', "stop", "f")
        self.fault("GONE(print(1))", "kind")


class ArgumentsTest(RunsTest):
    def test_once_twice_never(self):
        self.done('f <- fun(x) 1; f(print("a"))', "1", (), 1)
        self.done('f <- fun(x) x + x; f({ print("a"); 2 })', "4", ("a",), 21)
        self.done('f <- fun(x) x; f({ print("a"); 2 })', "2", ("a",), 21)

    def test_defaults(self):
        self.values(
            ("f <- fun(x, y = x + 1) y; f(1)", "2"), ("f <- fun(x, y = x + 1) y; f(1, 5)", "5"), ("f <- fun(x = y, y = 2) x; f()", "2"),
            ("f <- fun(x, y = x) { x <- 5; y }; f(1)", "5"), ("f <- fun(x, y = x) { y; x <- 5; y }; f(1)", "1"), ("z <- 1; f <- fun(x = z) { z <- 2; x }; f()", "2"),
            ("z <- 1; f <- fun(x) { z <- 2; x }; f(z)", "1"), ("f <- fun(x = { z <- 3; 1 }) { x; z }; f()", "3"),
        )

    def test_circles(self):
        self.faults(
            ("f <- fun(x = x) x; f()", "circle", "x", 1), ("f <- fun(x = y, y = x) x; f()", "circle", "x", 1), ("f <- fun(x = y, y = x) y; f()", "circle", "y", 1),
            ("f <- fun(x, y = { x + y }) y; f(1)", "circle", "y", 1),
        )
        # After the fault the argument can be asked again.
        self.done("f <- fun(n, x = if (n == 1) x else 7) { a <- try(x, fun(w, t) w + t); n <- 2; a + show(x) }; f(1)", "circlex7")

    def test_lacking(self):
        self.faults(("f <- fun(x) x; f()", "lacking", "x", 1), ("f <- fun(x) text(x); f()", "lacking", "x", 1), ("f <- fun(x, y = x) y; f()", "lacking", "x", 1))
        self.done("f <- fun(x) { x <- 3; x }; f()", "3")
        self.done("f <- fun(x) 3; f()", "3")

    def test_put_ahead_of_while_and_after(self):
        self.done('f <- fun(x) { x <- 5; x }; f(print("a"))', "5", ())
        self.done("f <- fun(x) { x; x <- 5; x }; f(1)", "5")
        # While it is being reckoned: the reading has the value, but what was put stays.
        self.done("f <- fun(x = { x <- 5; 3 }) show(x) + show(x); f()", "35")
        self.done("f <- fun(x = { x <- 5; x + 1 }) show(x) + show(x); f()", "65")
        self.done("f <- fun(x = { x <- 5; stop(\"a\") }) { try(x, fun(w, t) 0); x }; f()", "5")
        # Put in another place, it does not count.
        self.done("f <- fun(x) { g <- fun() { x <- 9; x }; show(g()) + show(x) }; f(1)", "91")

    def test_faults_make_unasked(self):
        self.done('f <- fun(x) { a <- try(x, fun(w, t) 1); b <- try(x, fun(w, t) 2); a + b }; f({ print("p"); stop("s") })', "3", ("p", "p"))
        self.done('n <- 0; f <- fun(x) { try(x, fun(w, t) 0); n <- 1; x }; f(if (n == 0) { n <- 1; stop("") } else 8)', "8")
        # All whose reckoning the fault leaves, but not those within which it is caught.
        self.done('f <- fun(x) x; g <- fun(y) { try(f(y), fun(w, t) 0); y }; n <- 0; g({ print("p"); n <- n + 1; if (n == 1) stop("") else n })', "2", ("p", "p"))
        self.done('f <- fun(x) show(x) + show(x); f(try({ print("p"); stop("s") }, fun(w, t) t))', "ss", ("p",))

    def test_text(self):
        self.values(
            ("f <- fun(x) text(x); f(1+2)", "1 + 2"), ("f <- fun(x) text(x); f(x=(a))", "a"), ("f <- fun(x = 1 + 1) text(x); f()", "1 + 1"),
            ("f <- fun(x) { x; text(x) }; f({ 1;2 })", "{ 1; 2 }"), ("f <- fun(x) { g <- fun(y) text(x); g(1) }; f(7)", "7"),
            ('f <- fun(x) text(x); f("a")', '"a"'), ("f <- fun(x) fun() text(x); f(a$b)()", "a$b"), ("f <- fun(x) { g <- fun(x) text(x); g(x) }; f(3)", "x"),
            ("try(1 / 0, fun(w, t) text(w) + text(t))", '"zero"""'), ('f <- fun(x) text(x)\ntry(stop(f("q")), fun(w, t) text(t))', '""q""'),
            (f"f <- fun(x) with ({TABLE}) text(x); f(3)", "3"),
        )
        self.faults(
            ("text(x)", "text", "x"), ("x <- 1; text(x)", "text", "x", 1), ("f <- fun(x) { x <- 1; text(x) }; f(2)", "text", "x", 1), ("text(print)", "text", "print"),
            (f"f <- fun(y) with ({TABLE}) text(y); f(3)", "text", "y", 1), ("f <- fun(x) { g <- fun() { x <- 2; text(x) }; g() }; f(3)", "text", "x", 1),
            ("f <- fun(x = { x <- 1; 2 }) { x; text(x) }; f()", "text", "x", 1),
        )


class TryTest(RunsTest):
    def test_try(self):
        self.values(
            ("try(1, stop(\"a\"))", "1"), ('try(stop("a"), fun(w, t) w + t)', "stopa"), ("try(x, fun(w, t) w + t)", "unknownx"), ("try(1, 2)", "1"),
            ('try(try(stop("a"), fun(w) 1), fun(w, t) w)', "many"), ('try(try(stop("a"), 7), fun(w, t) w)', "kind"),
            ('try(try(stop("a"), print), fun(w, t) w)', "many"), ('try(try(stop("a"), stop("b")), fun(w, t) w + t)', "stopb"), ('try(stop("a"), fun(t, w) w)', "a"),
            ('try(stop("a"), { f <- fun(w, t, u = 5) u })', "5"), ('try(try(stop("a"), fun(w, t) stop(t + "b")), fun(w, t) t)', "ab"),
            ("x <- 1; try({ x <- 2; y }, fun(w, t) x)", "2"), ('try(try(1 / 0, model), fun(w, t) w)', "kind"), ('try(try(1 / 0, plan), fun(w, t) w)', "lacking"),
        )
        self.done('try({ print("a"); x <- 1; stop("") }, fun(w, t) 0); x', "1", ("a",))
        self.done('try(stop("a"), { print("b"); fun(w, t) 1 })', "1", ("b",))
        self.done('try(1, { print("b"); fun(w, t) 1 })', "1", ())
        self.faults(('try(stop("a"), 3)', "kind"), ('try(stop("a"), x)', "unknown", "x"), ('1\ntry(stop("a"), fun(w, t) q)', "unknown", "q", 1))

    def test_function_is_reckoned_where_the_try_stands(self):
        self.done('f <- fun(x) try(stop(""), fun(w, t) x); f(4)', "4")
        self.done('try({ x <- 6; stop("") }, fun(w, t) x)', "6")


class PackageTest(RunsTest):
    def test_right_ones(self):
        self.values(
            ('table("rows 0;")', "table of 0 rows"), ('formula("y ~ a * b")', "y ~ a + b + a:b"), ('plan(3, "a b c", "120 011")', "plan of 3 runs, 3 factors of 3"),
            ('plan(2, "a b", "")', "plan of 4 runs, 2 factors of 2"), ('runs(plan(2, "a b", "11"))', "table of 2 rows: a factor, b factor"),
            (f'put({TABLE}, "z", "1 1/2 ? -3")', "table of 4 rows: a factor, b factor, y number, z number"), (f'put({TABLE}, "y", "1 2 3 4")$y == put({TABLE}$a, "y", "1 2 3 4")$y', "TRUE"),
            (f"rows({TABLE})", "4"), (f"columns({MODEL})", "2"), (f"columns(model({TABLE}, (~ a*b)))", "4"), (f"rank(model({TABLE}, (~ a + b + a:b)))", "4"),
            (f"rank(model({TABLE}, (y ~ a*b)))", "3"), (f"left(fit({MODEL}))", "9/2"), (f"adds(fit({MODEL}), 0)", "49/3"), (f"adds(fit({MODEL}), 1)", "1/6"),
            (f"adds(fit({MODEL}), 2)", "9/2"), (f"alike((y ~ a), (~ 0 + a), {TABLE})", "TRUE"), (f"alike((y ~ a), (~ b), {TABLE})", "FALSE"),
            (f"count((~ a*b), {TABLE})", "4"), (f"count((~ a + y), {TABLE})", "3"), ("show(3)", "3"), ('show("a b")', "a b"), ('put(table("rows 0;"), "a", "")', "table of 0 rows: a number"),
        )
        self.done("print(1 / 2)", "1/2", ("1/2",), 20)
        self.done('print(print("a") + "b")', "ab", ("a", "ab"), 40)
        self.done('print("")', "", ("",))

    def test_numbers_of_arguments_and_names(self):
        wanted = dict(
            table=1, formula=1, plan=3, runs=1, put=3, rows=1, model=2, columns=1, rank=1, fit=1, left=1, adds=2, alike=3, count=2, show=1, print=1,
        )
        for name, many in wanted.items():
            for given in range(5):
                args = ["GONE"] * given
                word = "lacking" if given < many else "many" if given > many else "kind"
                if word != "kind" or name not in ("show", "print"):
                    self.fault(f"{name}({', '.join(args)})", word, "", 0, 0)
                if given:
                    self.fault(f"{name}({', '.join(args[:-1] + ['zz = GONE'])})", "unknown", "zz", 0, 0)
                    self.fault(f"{name}({', '.join(['b = 1', 'a = 2'] + args)})", "unknown", "b", 0, 0)
        self.done('try(show({ print("a"); 1 }, x = print("b"), stop("c")), fun(w, t) w + t)', "stopc", ("a", "b"))
        self.done('try(show({ print("a"); 1 }, x = print("b")), fun(w, t) w + t)', "unknownx", ("a", "b"))

    def test_wrong_kinds(self):
        self.faults(*[(text, "kind", "", 0, None) for text in (
            "table(1)", "formula(GONE)", 'plan("2", "a", "")', "plan(2, 1, 1)", "runs(1)", f"runs({TABLE})", f'put({TABLE}, 1, "1 1 1 1")', 'put(1, "z", "")',
            f'put({TABLE}, "z", 1)', 'rows("a")', "rows(1)", f"model({TABLE}, 1)", f"model((~ a), {TABLE})", f"columns({TABLE})", f"rank(fit({MODEL}))", f"fit({TABLE})",
            f"left({MODEL})", f'adds(fit({MODEL}), "1")', f"alike((~ a), 1, {TABLE})", f"alike((~ a), (~ a), 1)", "count((~ a), (~ a))", f"count({TABLE}, (~ a))",
            # Wrong names, words and texts of numbers.
            'plan(2, "A b", "11")', 'plan(2, "a  b", "11")', 'plan(2, " a b", "11")', 'plan(2, "a b ", "11")', 'plan(2, "a,b", "11")', 'plan(2, "a in", "11")', 'plan(2, "a b", "1")',
            'plan(2, "a b", "111")', 'plan(2, "a b", "1x")', 'plan(2, "a b", "11  11")', 'plan(2, "a b", "11 ")', 'plan(2, "a b", " ")', 'plan(2, "a b", "-1")',
            f'put({TABLE}, "Z", "1 1 1 1")', f'put({TABLE}, "", "1 1 1 1")', f'put({TABLE}, "if", "1 1 1 1")', f'put({TABLE}, "z", "1 1  1 1")', f'put({TABLE}, "z", "2/4 1 1 1")',
            f'put({TABLE}, "z", "1 1 1 x")', f'put({TABLE}, "z", "01 1 1 1")', f'put({TABLE}, "z", "1, 1, 1, 1")',
            # Ratios that are no integers, or no index.
            'plan(1/2, "a", "")', f'plan({"9" * 60} * 10, "a", "")', f"adds(fit({MODEL}), 3)", f"adds(fit({MODEL}), -1)", f"adds(fit({MODEL}), 1/2)", f"adds(fit({MODEL}), {'9' * 60} * 100)",
        )])

    def test_faults_of_what_is_called(self):
        sixty = "9" * 60
        self.faults(
            ('table("a")', "ParseError", "0", 0, 20), ('table("rows 1;number y x;")', "ParseError", "1"), ('table("")', "ParseError", "0"), ('formula("a +")', "ParseError", "3"),
            ('formula("y ~ y")', "InvalidFormula"), ('formula("a+b+c+d+e+f+g+h+i+j")', "TooMany", "9"), ('plan(4, "a", "")', "InvalidNumber", "4"), ('plan(-3, "a", "")', "InvalidNumber", "-3"),
            (f'plan({sixty}, "a", "")', "InvalidNumber", sixty), ('plan(2, "a a", "")', "InvalidPlan"), ('plan(2, "a b", "21")', "InvalidPlan"), ('plan(2, "a b", "00")', "Refused"),
            ('plan(2, "a", "1 1")', "InvalidPlan"), ('plan(2, "a b c d e f g h", "")', "TooMany", "128"), ('plan(2, "", "")', "InvalidPlan"), (f'put({TABLE}, "z", "1 2")', "InvalidTable", "", 0, 40),
            (f"model({TABLE}, (y ~ q))", "UnknownName", "q"), (f"model({TABLE}, (a ~ b))", "InvalidModel"), (f"fit(model({TABLE}, (~ a)))", "Refused"), (f"alike((~ a), (~ q), {TABLE})", "UnknownName", "q"),
            (f"count((~ q), {TABLE})", "UnknownName", "q"), (f"columns(model({TABLE}, (y ~ q)))", "UnknownName", "q"),
        )
        table = 'table("rows 65' + ";number y" + " 1" * 65 + ';")'
        self.fault(f"model({table}, (~ y))", "TooMany", "64")
        self.fault(f'put({TABLE}, "x", "1 1 1 1234567")' + "\nmodel(put(" + TABLE + ', "x", "1 1 1 1234567"), (~ x))', "TooMany", "6", 1)

    def test_right_sides_are_0(self):
        table = 'table("rows 2;factor a l0,l1 l0 l1;factor b l0,l1 l0 l1;")'
        self.done(f'runs(plan(2, "a b", "11")) == {table}', "TRUE")
        self.done('runs(plan(3, "a", "2")) == table("rows 1;factor a l0,l1,l2 l0;")', "TRUE")

    def test_strings_of_tables(self):
        self.done('table("rows 2;number y 1 2;") == put(table("rows 2;"), "y", "1 2")', "TRUE")


class LimitsTest(RunsTest):
    def limit(self, text, word, steps=None, many_lines=None):
        end, lines, counted = self.outcome(text)
        self.assertEqual(end, ("limit", word))
        if steps is not None:
            self.assertEqual(counted, steps)
        if many_lines is not None:
            self.assertEqual(len(lines), many_lines)

    def loops(self, many):
        """A function that calls itself twice at each of so many levels, and so counts 2 ** many - 1 steps."""
        return "f <- fun(n) if (n <= 1) 0 else { f(n - 1); f(n - 1) }; f(" + str(many) + ")"

    def test_5000_steps(self):
        self.done(self.loops(12), "0", (), 4095)
        self.limit(self.loops(13), "steps", 5000)
        # 4095 and 45 times twenty are 4995.
        ahead = self.loops(12) + "; " + "; ".join(["show(1)"] * 45) + "; g <- fun() 0; "
        self.done(ahead + "; ".join(["g()"] * 5), "0", (), 5000)
        self.limit(ahead + "; ".join(["g()"] * 6), "steps", 5000)
        self.limit(ahead + "show(1)", "steps", 4995)
        self.limit(ahead + 'try(show(1), fun(w, t) print("caught"))', "steps", 4995, 0)
        self.limit(ahead + 'g(); g(); g(); g(); g(); try(g(), fun(w, t) 1)', "steps", 5000)
        # What is wrong counts no steps, and is found first.
        self.fault(ahead + "show()", "lacking", "", 60 - 12, 4995)

    def test_150_open_ones(self):
        # A call that is open in each level, and what is asked as long as it is being reckoned.
        text = "f <- fun(n) if (n <= 1) 0 else { m <- n - 1; f({ m }) }; f("
        self.done(text + "50)", "0")
        self.limit(text + "150)", "depth")
        found = [self.outcome(f"{text}{many})")[0] for many in range(70, 80)]
        self.assertEqual(sorted(set(found)), [("done", "0")])
        self.limit("f <- fun(x) f(x); f(1)", "depth", 150 + 1)

    def test_exactly_150(self):
        # No arguments: each function calls the next one, which is made within it.
        def nest(many):
            return "; ".join(f"f{at} <- fun() {'1' if at == 0 else f'f{at - 1}()'}" for at in range(many)) + f"; f{many - 1}()"

        self.done(nest(150), "1", (), 150)
        end, _, steps = self.outcome(nest(151))
        self.assertEqual((end, steps), (("limit", "depth"), 151))

        def within(many, inner):
            return "; ".join(f"f{at} <- fun() {inner if at == 0 else f'f{at - 1}()'}" for at in range(many)) + f"; f{many - 1}()"

        for inner in ("try(1, 2)", f"with ({TABLE}) 1", "(fun(x) 1)(2)"):
            self.done(within(149, inner), "1")
            self.limit(within(150, inner), "depth")
        for inner in ("(fun(x) x)(1)", "try(1 / 0, fun(w, t) if (w == \"zero\") 1 else 2)", "try(try(1, 2), 3)"):
            self.done(within(148, inner), "1")
            self.limit(within(149, inner), "depth")
        # Arguments of package functions, and the function of a try, are not open.
        self.done(within(150, "show({ show(1) })"), "1")
        self.limit(within(150, "try({ 1 }, fun(w, t) 5)"), "depth")
        self.done(within(149, 'try(stop("a"), { show(1); fun(w, t) 1 })'), "1")
        # Frames that are not open do not count, however many they are.
        def shown(many):
            return "; ".join(f"f{at} <- fun() {'1' if at == 0 else f'show(show(f{at - 1}()))'}" for at in range(many)) + f"; f{many - 1}()"

        self.done(shown(119), "1")
        self.done("f <- fun(n) if (n == 0) 1 else { m <- n - 1; show(show(f({ m }))) }; f(100)", "1")
        self.limit("f <- fun(n) if (n == 0) 1 else { m <- n - 1; show(show(f({ m }))) }; f(150)", "depth", 150)
        self.limit("f <- fun(n) if (n == 0) try(1, 2) else { m <- n - 1; show(show(f({ m }))) }; f(149)", "depth", 150)
        # A circle is found ahead of the depth.
        self.fault(within(148, "(fun(x = x) x)()"), "circle", "x", 148)

    def test_200_lines(self):
        each = "; ".join(["print(1)"] * 100)
        self.done(f"{each}; {each}", "1", ("1",) * 200, 4000)
        end, printed, steps = self.outcome(f"{each}; {each}; print(2)")
        self.assertEqual((end, printed, steps), (("limit", "lines"), ("1",) * 200, 4020))
        self.limit(f"{each}; {each}; try(print(2), fun(w, t) 0)", "lines", 4020, 200)
        self.done(f"{each}; {each}; show(2)", "2", ("1",) * 200)
        # A text that is too long becomes no line.
        long = "fun() { " + "; ".join(["aaaaaaaa"] * 100) + " }"
        self.fault(f"{each}; {each}; print({long})", "great", "", 200, 4020)

    def test_which_comes_first(self):
        each = "; ".join(["print(1)"] * 100)
        # Steps ahead of lines: 4000 for the lines, 48 times twenty, and 40 ones make 5000.
        steps = "; ".join(["show(1)"] * 49) + "; g <- fun() 0; " + "; ".join(["g()"] * 20)
        self.limit(f"{each}; {each}; {steps}; print(1)", "steps", 5000, 200)
        # Steps ahead of depth.
        calls = "; ".join(f"f{at} <- fun() {'{ print(1); h() }' if at == 0 else f'f{at - 1}()'}" for at in range(150))
        found = self.outcome(f"h <- fun() 1; {calls}; f149()")
        self.assertEqual((found[0], found[2]), (("limit", "depth"), 171))
        more = "l <- fun(n) if (n <= 1) 0 else { l(n - 1); l(n - 1) }; l(12); " + "; ".join(["show(1)"] * 37) + "; g <- fun() 0; "
        # 4095 and 740 and 15 are 4850, and 150 calls make 5000.
        calls = "; ".join(f"f{at} <- fun() {'h()' if at == 0 else f'f{at - 1}()'}" for at in range(150))
        found = self.outcome(f"h <- fun() 1; {more}{'; '.join(['g()'] * 15)}; {calls}; f149()")
        self.assertEqual((found[0], found[2]), (("limit", "steps"), 5000))
        found = self.outcome(f"h <- fun() 1; {more}{'; '.join(['g()'] * 14)}; {calls}; f149()")
        self.assertEqual((found[0], found[2]), (("limit", "depth"), 5000))


class RunTest(RunsTest):
    def state(self, run):
        return run.end, run.lines, run.steps, run.names, [run.text_of(name) for name in run.names]

    def slow_state(self, run):
        names = tuple(sorted(run.top.put))
        return run.end, tuple(run.lines), run.steps, names, [text_of(run.top.put[name]) for name in names]

    def test_cut_at_every_statement(self):
        rng = random.Random(1203)
        kinds = set()
        for _ in range(150):
            made = program(rng, depth=3, most=6)
            if not is_program(made) or not made:
                continue
            whole = outcome(made)
            kinds.add(whole[0][0])
            one, slow = Run(made), Slow(made)
            left = len(made)
            while left:
                many = rng.choice([0, 1, 1, 2, 3])
                left = one.advance(many=many)
                slow.go(many)
                self.assertEqual(self.state(one), self.slow_state(slow))
                self.assertEqual(left, 0 if slow.end is not None else len(made) - slow.at)
            self.assertEqual((one.end, one.lines, one.steps), whole)
            self.assertEqual((one.advance(), one.advance(many=3), one.advance(many=0)), (0, 0, 0))
            self.assertEqual((one.end, one.lines, one.steps), whole)
        self.assertLessEqual({"done", "fault"}, kinds)

    def test_small_ones(self):
        run = Run(read_program("x <- 1; print(x); y <- fun() x; z"))
        self.assertEqual((run.end, run.lines, run.steps, run.names), (None, (), 0, ()))
        self.assertEqual(run.advance(many=0), 4)
        self.assertEqual((run.advance(many=1), run.names, run.text_of("x")), (3, ("x",), "1"))
        self.assertEqual((run.advance(many=1), run.lines, run.steps, run.end), (2, ("1",), 20, None))
        self.assertEqual((run.advance(many=1), run.names, run.text_of("y")), (1, ("x", "y"), "fun() x"))
        self.assertEqual((run.advance(many=5), run.end), (0, ("fault", "unknown", "z", 3)))
        self.assertEqual((run.names, run.text_of("x")), (("x", "y"), "1"))
        run = Run(read_program("1; 2"))
        self.assertEqual((run.advance(many=2), run.end), (0, ("done", "2")))
        run = Run(())
        self.assertEqual((run.end, run.advance(), run.end, run.lines, run.steps), (None, 0, ("done", "GONE"), (), 0))

    def test_two_beside_one_another(self):
        made = read_program("x <- 1; x <- x + 1; print(x); x <- x * 5; print(x)")
        one, other = Run(made), Run(made)
        one.advance(many=3)
        other.advance(many=1)
        self.assertEqual((one.text_of("x"), other.text_of("x"), one.lines, other.lines), ("2", "1", ("2",), ()))
        other.advance()
        one.advance()
        self.assertEqual(self.state(one), self.state(other))

    def test_text_of(self):
        long = "fun() { " + "; ".join(["aaaaaaaa"] * 100) + " }"
        run = Run(read_program(f"f <- {long}; g <- print; x <- 1 / 3; t <- {TABLE}; m <- model(t, (y ~ a)); n <- GONE; b <- TRUE; s <- \"q\""))
        self.assertEqual(run.advance(), 0)
        self.assertEqual(run.names, ("b", "f", "g", "m", "n", "s", "t", "x"))
        self.assertEqual([run.text_of(name) for name in run.names], [
            "TRUE", long, "print", "model of 2 columns", "GONE", "q", "table of 4 rows: a factor, b factor, y number", "1/3",
        ])
        for value in wrong_values() + ["print", "y", "show", "abc"]:
            self.unknown(value, run.text_of, value)

    def test_a_text_is_asked_for_nothing(self):
        run = Run(read_program("f <- fun(x) { y <- x; 1 }; f(2)"))
        run.advance()
        self.assertEqual(run.names, ("f",))
        self.unknown("y", run.text_of, "y")

    def test_wrong_arguments(self):
        self.all_rejected(InvalidTree, Run, [()])
        self.all_rejected(InvalidTree, outcome, [()])
        run = Run(read_program("1; 2"))
        for value in wrong_values():
            if value is not None and not (type(value) is int and 0 <= value < 10 ** 60):
                self.number(value, run.advance, many=value)
        self.assertEqual(run.advance(many=0), 2)
        self.assertEqual(run.advance(many=10 ** 59), 0)
        self.number(-1, run.advance, many=-1)
        self.assertRaises(TypeError, run.advance, 1)
        self.assertRaises(TypeError, iter, run)

    def test_each_form_of_the_end(self):
        self.assertEqual(outcome(read_program("1; 2")), (("done", "2"), (), 0))
        self.assertEqual(outcome(()), (("done", "GONE"), (), 0))
        self.assertEqual(outcome(read_program('1; stop("x"); 3')), (("fault", "stop", "x", 1), (), 0))
        self.assertEqual(outcome(read_program("f <- fun() f(); f()")), (("limit", "depth"), (), 151))
        self.assertEqual(outcome(read_program("f <- fun(x) { try(f(1), 2) }; f(1)"))[0], ("limit", "depth"))

    def test_by_chance(self):
        rng = random.Random(1204)
        words = set()
        for _ in range(700):
            made = program(rng, depth=rng.randint(2, 5))
            if is_program(made):
                found = outcome(made)
                self.assertEqual(found, slow_outcome(made))
                words.add(found[0][:2] if found[0][0] == "fault" else found[0][0])
        self.assertGreater(len(words), 8)
