"""Stage 13: the machine."""

import random

from tests.programs import program
from tests.slow_runs import Slow, slow_outcome, text_of
from tests.support import Case, r, wrong_values
from tests.test_judge import END, LATE, NONE, body_of, late_of, program_of
from worthstead.code.blocks import Block, Code
from worthstead.code.judge import is_sound
from worthstead.code.making import compiled
from worthstead.errors import InvalidCode
from worthstead.formulas.reader import read_formula
from worthstead.lang.reader import read_program
from worthstead.lang.runs import outcome
from worthstead.lang.trees import is_program
from worthstead.machine.machine import Machine

TABLE = 'table("rows 3;factor a lo,hi lo hi lo;number y 1 2 4;")'
# Programs with each kind of frame and value at some row.
TEXTS = (
    "", "1; x <- 2; x + 1", "f <- fun(x, y = x + 1) { x <- 5; y }\nprint(f({ print(\"a\"); 2 }))\ntry(1 / 0, fun(w, t) w)",
    f"t <- {TABLE}; with (t) {{ z <- y; f <- fun(q) with (q) y; f(z) == y }}; m <- model(t, (y ~ a)); x <- fit(m); left(x) + adds(x, 0)",
    'p <- plan(3, "a b c", "120"); t <- runs(p); show(p) + show(t); p == plan(3, "a b c", "120")',
    'c <- fun(n) fun() { n <- n + 1; n }; a <- c(1); b <- a; a(); b(); print(a()); d <- c(5); d() + a()',
    'f <- fun(x) { g <- fun() x; try(g(), fun(w, t) print(w + t + text(t))); g() }; n <- 0; f({ n <- n + 1; if (n == 1) stop("once") else print(n) })',
    "f <- fun(x = x) x; try(f(), fun(w, t) w + t); f(3)", "f <- fun(x = y, y = x) x; f()", 'try(try(stop("a"), stop("b")), { print("c"); fun(w, t) w + t })',
    "f <- fun(n) if (n <= 1) 1 else n * f(n - 1); f(5)", "f <- fun(x) f(x); f(1)", 'show(1, b = 2, print("p"))', 'put(' + TABLE + ', "z", { print("q"); "1 2 3" })$z',
    'f <- fun(x, y) { x <- y; text(y) + show(x) }; f(y = ~q~, 2)'.replace("~q~", '"~0~1"'), "f <- fun(x) fun() x; g <- fun(y) f(y + 1); h <- g(5); h() + h()",
    "f <- fun(x) { x; fun() x }; k <- fun() { z <- 3; fun() z }; h <- f(k()); h()()", f"f <- fun(t) with (t) fun() y; h <- f({TABLE}); h()",
    'k <- fun(z) fun() z; try(show(k(1), k(2), print("a")), fun(w, t) w)', "g <- print; try({ g(1); g() }, fun(w, t) { g(w); GONE })",
    "x <- (y ~ a*b); f <- fun() x; k <- TRUE; f() == x & k", "f <- fun(a) fun(b) fun(c) text(a) + text(b) + text(c); f(1)(2)(3)",
)


def machine_of(text):
    return Machine(compiled(read_program(text)))


def state(machine):
    texts = [machine.text_of(name) for name in machine.names]
    return machine.end, machine.lines, machine.steps, machine.names, texts, machine.place, machine.open_total


class MachineTest(Case):
    def test_before_and_behind(self):
        machine = machine_of("x <- 1; print(x)")
        self.assertEqual(state(machine), (None, (), 0, (), [], (0, 0), 0))
        self.assertEqual(machine.code, compiled(read_program("x <- 1; print(x)")))
        self.assertGreater(machine.run_on(), 0)
        self.assertEqual(state(machine), (("done", "1"), ("1",), 20, ("x",), ["1"], None, 0))
        for _ in range(3):
            self.assertIs(machine.step(), False)
            self.assertEqual((machine.run_on(), machine.run_on(most=0), machine.run_on(most=5)), (0, 0, 0))
        self.assertEqual(state(machine), (("done", "1"), ("1",), 20, ("x",), ["1"], None, 0))
        self.assertRaises(TypeError, iter, machine)

    def places(self, text):
        machine = machine_of(text)
        found = [machine.place]
        while machine.step():
            found.append(machine.place)
        return found

    def test_rows_one_by_one(self):
        self.assertEqual(self.places("1"), [(0, 0), (0, 1), (0, 2)])
        self.assertEqual(self.places(""), [(0, 0), (0, 1)])
        self.assertEqual(self.places("if (FALSE) 1 else 2"), [(0, 0), (0, 1), (0, 2), (0, 5), (0, 6)])
        # A call, an argument that is asked, a with and a try run in frames.
        self.assertEqual(self.places("(fun(x) x)(7)"), [(0, 0), (0, 1), (0, 2), (0, 3), (1, 0), (2, 0), (2, 1), (1, 1), (0, 4)])
        self.assertEqual(self.places("try(1, 2)"), [(0, 0), (0, 1), (1, 0), (1, 1), (0, 2)])
        self.assertEqual(self.places("show(3)"), [(0, 0), (0, 1), (0, 2), (0, 3), (1, 0), (1, 1), (0, 4)])
        self.assertEqual(self.places("x"), [(0, 0), (0, 1)])
        # Behind a fault the second block is next; the word and the text have no rows of their own.
        self.assertEqual(self.places('try(x, fun(w, t) w)'), [(0, 0), (0, 1), (1, 0), (2, 0), (2, 1), (3, 0), (3, 1), (0, 2)])

    def test_how_often(self):
        for text in TEXTS:
            whole, parts = machine_of(text), machine_of(text)
            steps = 0
            while parts.step():
                steps += 1
            self.assertEqual(whole.run_on(), steps + 1)
            self.assertEqual(state(whole), state(parts))
            bits = machine_of(text)
            self.assertEqual([bits.run_on(most=0), bits.run_on(most=1)], [0, 1])
            self.assertEqual(bits.run_on(most=steps - 1), steps - 1)
            if steps:
                self.assertIsNone(bits.end)
                self.assertEqual((bits.run_on(most=10), bits.end), (1, whole.end))

    def test_open_things(self):
        machine = machine_of(f"f <- fun(x) {{ try(with ({TABLE}) x, 1) }}; f({{ show(2) }})")
        seen = []
        while machine.step():
            seen.append((machine.place[0], machine.open_total))
        blocks = {block.text or block.kind: number for number, block in enumerate(machine.code)}
        self.assertIn((blocks["f" if "f" in blocks else "program"], 0), seen)
        by_block = {number: total for number, total in seen}
        self.assertEqual(by_block[blocks["{ show(2) }"]], 4)
        self.assertEqual(by_block[blocks["2"]], 4)
        self.assertEqual(by_block[blocks["with"]], 3)
        self.assertEqual(machine.open_total, 0)
        deep = machine_of("f <- fun() f(); f()")
        most = 0
        while deep.step():
            most = max(most, deep.open_total)
        self.assertEqual((most, deep.end, deep.open_total, deep.place), (150, ("limit", "depth"), 0, None))

    def test_as_by_the_rules(self):
        for text in TEXTS:
            made = read_program(text)
            slow = Slow(made).go()
            machine = Machine(compiled(made))
            machine.run_on()
            self.assertEqual((machine.end, machine.lines, machine.steps), slow_outcome(made))
            self.assertEqual((machine.end, machine.lines, machine.steps), outcome(made))
            self.assertEqual(machine.names, tuple(sorted(slow.top.put)))
            self.assertEqual([machine.text_of(name) for name in machine.names], [text_of(slow.top.put[name]) for name in machine.names])

    def test_by_chance(self):
        rng = random.Random(1303)
        for _ in range(300):
            made = program(rng, depth=rng.randint(2, 5))
            if is_program(made):
                machine = Machine(compiled(made))
                while machine.run_on(most=rng.randint(1, 40)):
                    pass
                slow = Slow(made).go()
                self.assertEqual((machine.end, machine.lines, machine.steps), slow_outcome(made))
                self.assertEqual(machine.names, tuple(sorted(slow.top.put)))

    def test_limits(self):
        each = "; ".join(["print(1)"] * 100)
        loops = "f <- fun(n) if (n <= 1) 0 else { f(n - 1); f(n - 1) }; f(13)"
        for text in (f"{each}; {each}; print(2)", loops, "f <- fun() try(f(), fun(w, t) 0); f()", "f <- fun(x) { x; f({ x }) }; f(1)"):
            machine = machine_of(text)
            while machine.run_on(most=1000):
                pass
            self.assertEqual((machine.end, machine.lines, machine.steps), slow_outcome(read_program(text)))
            self.assertEqual(machine.end[0], "limit")
            self.assertEqual((machine.place, machine.open_total), (None, 0))

    def test_wrong_arguments(self):
        self.all_rejected(InvalidCode, Machine)
        for code in (Code((LATE,)), Code((program_of(END),)), Code((program_of(NONE, END), LATE))):
            self.raises(InvalidCode, Machine, code)
            self.raises(InvalidCode, Machine.thawed, code, None)
        machine = machine_of("1")
        for value in wrong_values():
            if not (type(value) is int and 0 <= value < 10 ** 60):
                self.number(value, machine.run_on, most=value)
            self.unknown(value, machine.text_of, value)
            self.raises(InvalidCode, Machine.thawed, value, "")
            if not isinstance(value, str):
                self.parse(None, Machine.thawed, machine.code, value)
        self.assertEqual(state(machine), state(machine_of("1")))
        self.assertRaises(TypeError, machine.run_on, 3)
        self.unknown("print", machine.text_of, "print")


class FrozenTest(Case):
    def thawed(self, machine):
        text = machine.frozen()
        self.assertTrue(all(character == "\n" or " " <= character <= "~" for character in text))
        self.assertEqual(machine.frozen(), text)
        made = Machine.thawed(machine.code, text)
        self.assertEqual(state(made), state(machine))
        # Equal states have equal texts.
        self.assertEqual(made.frozen(), text)
        self.assertEqual(machine.twin().frozen(), text)
        return made

    def test_ahead_of_each_row(self):
        for text in TEXTS:
            with self.subTest(text=text):
                whole = machine_of(text)
                whole.run_on()
                machine = machine_of(text)
                for _ in range(3000):
                    machine = self.thawed(machine)
                    if not machine.step():
                        break
                self.assertEqual(state(machine), state(whole))
                self.assertEqual(state(self.thawed(machine)), state(whole))

    def test_once_and_twice(self):
        for text in TEXTS[:11]:
            whole = machine_of(text)
            total = whole.run_on()
            for cut in range(0, total, 1 if total < 60 else 7):
                machine = machine_of(text)
                machine.run_on(most=cut)
                self.check_rest(self.thawed(machine), whole)
                self.check_rest(self.thawed(self.thawed(machine)), whole)
                self.check_rest(machine.twin(), whole)
                # Another machine with an equal code does, too.
                self.check_rest(Machine.thawed(compiled(read_program(text)), machine.frozen()), whole)
                self.check_rest(machine, whole)

    def check_rest(self, machine, whole):
        while machine.step():
            pass
        self.assertEqual(state(machine), state(whole))

    def test_by_chance(self):
        rng = random.Random(1304)
        for _ in range(120):
            made = program(rng, depth=rng.randint(2, 4))
            if is_program(made):
                machine = Machine(compiled(made))
                for _ in range(300):
                    if not machine.step():
                        break
                    machine = Machine.thawed(machine.code, machine.frozen()) if rng.random() < 0.8 else machine.twin()
                machine.run_on()
                self.assertEqual((machine.end, machine.lines, machine.steps), slow_outcome(made))

    def test_twins(self):
        machine = machine_of("f <- fun() { n <- 0; fun() { g() } }; k <- 1; g <- fun() { k <- k + 1 }; x <- 1; x <- x + 1; print(x); x <- x * 10")
        machine.run_on(most=12)
        twin = machine.twin()
        ahead = state(machine)
        twin.run_on()
        self.assertEqual(state(machine), ahead)
        self.assertEqual((twin.end, twin.text_of("x"), twin.lines), (("done", "20"), "20", ("2",)))
        machine.run_on()
        self.assertEqual(state(machine), state(twin))
        behind = machine.twin()
        self.assertEqual((behind.step(), state(behind)), (False, state(machine)))

    def test_what_was_one_is_one_again(self):
        text = 'c <- fun() { n <- 0; fun() { h <- 1; m() } }; m <- fun() 0; f <- fun(x) { a <- fun() x; b <- fun() x; show(a()) + show(b()) }; f({ print("once"); 7 })'
        whole = machine_of(text)
        whole.run_on()
        self.assertEqual((whole.lines, whole.end), (("once",), ("done", "77")))
        machine = machine_of(text)
        while machine.step():
            machine = self.thawed(machine)
        self.assertEqual(state(machine), state(whole))
        shared = "p <- fun(x) { s <- fun(v) { k <- v; fun() k }; x }; w <- fun(y) { y; y <- 2; y }; z <- fun(q, r = q) { q <- 4; r + q }; z(w(1))"
        whole, machine = machine_of(shared), machine_of(shared)
        whole.run_on()
        while machine.step():
            machine = self.thawed(machine)
        self.assertEqual((state(machine), whole.end), (state(whole), ("done", "8")))

    def test_any_texts(self):
        # Texts with the signs that the frozen form itself needs.
        for string in ("~", "~0", "~1", "~~10", "-", "", " ", "|", "0", "\\n", "GONE"):
            text = f'x <- "{string}"; f <- fun(y) {{ print(y); y == x }}; f(x); try(stop(x), fun(w, t) t)'
            machine = machine_of(text)
            while machine.step():
                machine = self.thawed(machine)
            self.assertEqual((machine.end, machine.lines), (("done", string), (string,)))
            failed = machine_of(f'stop("{string}")')
            failed.run_on()
            self.assertEqual(self.thawed(failed).end, ("fault", "stop", string, 0))

    def test_thawed_errors_in_order(self):
        code = compiled(read_program("1"))
        self.raises(InvalidCode, Machine.thawed, None, 1)
        self.raises(InvalidCode, Machine.thawed, Code((LATE,)), "x")
        self.parse(None, Machine.thawed, code, None)
        self.parse(None, Machine.thawed, code, b"1")


class OtherCodesTest(Case):
    """Sound codes that no program has come to an end and raise no error."""

    def ends(self, *blocks):
        code = Code(blocks)
        self.assertTrue(is_sound(code))
        whole = Machine(code)
        whole.run_on()
        self.assertIsNotNone(whole.end)
        machine = Machine(code)
        while machine.step():
            machine = Machine.thawed(code, machine.frozen())
        self.assertEqual(state(machine), state(whole))
        return whole.end

    def test_arguments_as_values(self):
        late = Block("late", (), (), (NONE, END), "GONE")
        self.assertEqual(self.ends(program_of(("late", 1), END), late)[0], "done")
        for row in (("operator", "-", 1), ("operator", "!", 1), ("pick", "x"), ("stop",), ("call", ())):
            rows = (("late", 1), row, END)
            self.assertEqual(self.ends(program_of(*rows), late), ("fault", "kind", "", 0))
        for sign in ("+", "==", "&", "<"):
            self.assertEqual(self.ends(program_of(("late", 1), ("late", 2), ("operator", sign, 2), END), late, late), ("fault", "kind", "", 0))
        self.assertEqual(self.ends(program_of(("late", 1), ("unless", 2), NONE, END), late)[:2], ("fault", "truth"))
        self.assertEqual(self.ends(program_of(("late", 1), ("with", 2), END), late, Block("with", (), (), (NONE, END)))[:2], ("fault", "kind"))
        self.ends(program_of(("late", 1), ("put", "x"), ("drop",), ("name", "show"), ("late", 2), ("call", (None,)), END), late, late_of(("name", "x"), END))
        self.ends(program_of(("name", "print"), ("late", 1), ("call", (None,)), END), late_of(("late", 2), END), late)

    def test_values_as_arguments(self):
        body = body_of((("x", None),), ("x",), ("slot", 0), END)
        for value in (NONE, ("literal", r(1)), ("literal", "t"), ("name", "print")):
            self.assertEqual(self.ends(program_of(("function", 1), value, ("call", (None,)), END), body)[:2], ("fault", "kind"))
            self.assertEqual(self.ends(program_of(("name", "show"), value, ("call", (None,)), END))[:2], ("fault", "kind"))

    def test_odd_rows(self):
        self.assertEqual(self.ends(program_of(NONE, END)), ("done", "GONE"))
        self.assertEqual(self.ends(program_of(("name", "x"), END)), ("fault", "unknown", "x", 0))
        self.assertEqual(self.ends(program_of(("slot", 0), END, slots=("x",))), ("fault", "unknown", "x", 0))
        self.assertEqual(self.ends(program_of(("literal", r(3)), ("set", 0), ("put", "y"), ("drop",), ("name", "x"), ("slot", 1), ("operator", "+", 2), END, slots=("x", "y"))), ("done", "6"))
        self.assertEqual(self.ends(program_of(("statement", 0), ("jump", 3), ("statement", 1), ("statement", 2), ("literal", r(1)), ("literal", r(0)), ("operator", "/", 2), END)), ("fault", "zero", "", 2))
        self.assertEqual(self.ends(program_of(("text", "x"), END)), ("fault", "text", "x", 0))
        self.assertEqual(self.ends(program_of(("literal", "s" * 10000), ("stop",))), ("fault", "stop", "s" * 10000, 0))
        self.assertEqual(self.ends(program_of(("literal", "a\nb~1"), END)), ("done", "a\nb~1"))
        self.assertEqual(self.ends(program_of(("literal", "s" * 401), END)), ("done", "s" * 401))
        self.assertEqual(self.ends(program_of(("name", "f"), *([("late", at + 1) for at in range(20)]), ("call", (None,) * 20), END), *[LATE] * 20)[:2], ("fault", "unknown"))
        self.assertEqual(self.ends(program_of(("name", "show"), *([("late", at + 1) for at in range(20)]), ("call", ("x",) * 20), END), *[LATE] * 20), ("fault", "unknown", "x", 0))
        self.assertEqual(self.ends(program_of(("literal", read_formula("y ~ a")), END)), ("done", "y ~ a"))

    def test_try_with_odd_parts(self):
        fail = late_of(("literal", "no"), ("stop",))
        self.assertEqual(self.ends(program_of(("try", 1, 2), END), fail, LATE), ("fault", "kind", "", 0))
        self.assertEqual(self.ends(program_of(("try", 1, 2), END), fail, late_of(("literal", "yes"), ("stop",))), ("fault", "stop", "yes", 0))
        self.assertEqual(self.ends(program_of(("try", 2, 1), END), late_of(("function", 3), END), late_of(("literal", "s" * 500), ("stop",)),
                                   body_of((("x", None), ("y", None)), ("x", "y"), ("text", "y"), END)), ("fault", "great", "", 0))

    def test_by_chance(self):
        rng = random.Random(1305)
        ended = 0
        for _ in range(400):
            made = program(rng, depth=3)
            if not is_program(made):
                continue
            code = compiled(made)
            for _ in range(3):
                number = rng.randrange(len(code))
                rows = list(code[number].rows)
                for _ in range(rng.randint(1, 3)):
                    rows.insert(rng.randrange(len(rows)), rng.choice([
                        NONE, ("drop",), ("literal", r(2)), ("name", "f"), ("name", "x"), ("put", "x"), ("call", ()), ("operator", "-", 1), ("operator", "==", 2), ("stop",), END,
                    ]))
                block = Block(code[number].kind, code[number].params, code[number].slots, tuple(rows), code[number].text)
                changed = Code(code.blocks[:number] + (block,) + code.blocks[number + 1:])
                if is_sound(changed):
                    machine = Machine(changed)
                    machine.run_on()
                    self.assertIsNotNone(machine.end)
                    ended += 1
        self.assertGreater(ended, 100)
