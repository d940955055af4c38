"""Stage 13: codes, and those of programs."""

import random

from tests.programs import program
from tests.slow_runs import Slow
from tests.support import Case, r, wrong_values
from worthstead.code.blocks import Block, Code
from worthstead.code.judge import depths, is_sound
from worthstead.code.making import compiled
from worthstead.errors import InvalidCode, InvalidTree
from worthstead.formulas.reader import read_formula
from worthstead.lang.reader import read_program
from worthstead.lang.trees import is_program
from worthstead.lang.writer import write_expression

END = ("end",)
SIGNS = ("|", "&", "==", "<", "<=", "+", "-", "*", "/")
# A row of each kind.
ROWS = (
    ("literal", r("1/2")), ("literal", True), ("literal", False), ("literal", "t"), ("literal", None), ("literal", read_formula("y ~ a")),
    ("name", "x"), ("slot", 0), ("put", "x"), ("set", 20000), ("drop",), ("statement", 7), ("operator", "+", 2), ("operator", "!", 1),
    ("jump", 3), ("unless", 20000), ("function", 1), ("late", 2), ("call", ()), ("call", (None, "x", None)), ("pick", "y"), ("with", 3),
    ("try", 1, 2), ("stop",), ("text", "x"), END,
)


def code_of(text):
    return compiled(read_program(text))


def slow_put(node):
    """The names put in one place, by the rules: all statements but those of bodies and of what stands in a with."""
    word, names = node[0], []
    if word == "set":
        names = [node[1]]
    if word == "fun":
        return []
    if word == "with":
        return slow_put(node[1])
    for part in node[1:]:
        names.extend(name for inner in inner_nodes(part) for name in slow_put(inner))
    return names


def inner_nodes(part):
    if not isinstance(part, tuple) or not part:
        return []
    if isinstance(part[0], str):
        return [part]
    found = []
    for one in part:
        if isinstance(one, tuple) and len(one) == 2 and (one[0] is None or isinstance(one[0], str)) and isinstance(one[1], tuple):
            # A pair of an argument; trees of two members have no tuple of a tree's form behind a name that is a word.
            if one[0] in ("block", "stop"):
                found.append(one)
            else:
                found.append(one[1])
        elif isinstance(one, tuple):
            found.append(one)
    return found


def once(names):
    return tuple(dict.fromkeys(names))


class SlowCode:
    """The code of a program with trees in the place of the indices of blocks, which are numbered at the end."""

    def __init__(self, statements):
        slots = once(name for statement in statements for name in slow_put(statement))
        rows = []
        for index, statement in enumerate(statements):
            rows += ([("drop",)] if index else []) + [("statement", index)] + self.rows(statement, slots, len(rows) + (2 if index else 1))
        self.blocks = [["program", (), slots, rows or [("literal", None)], ""]]
        at = 0
        while at < len(self.blocks):
            self.blocks[at][3] = [self.numbered(row, at) for row in self.blocks[at][3] + [END]]
            at += 1

    def numbered(self, row, at):
        slots = self.blocks[at][2]
        if row[0] == "function":
            return ("function", self.add_function(row[1]))
        if row[0] == "late":
            return ("late", self.add(["late", (), slots, self.rows(row[1], slots), write_expression(row[1])]))
        if row[0] == "with":
            return ("with", self.add(["with", (), (), self.rows(row[1], ()), ""]))
        if row[0] == "try":
            return ("try",) + tuple(self.add(["late", (), slots, self.rows(part, slots), write_expression(part)]) for part in row[1:])
        return row

    def add(self, block):
        self.blocks.append(block)
        return len(self.blocks) - 1

    def add_function(self, tree):
        names = [name for name, _ in tree[1]]
        put = [name for _, default in tree[1] if default is not None for name in slow_put(default)] + slow_put(tree[2])
        slots = once(names + put)
        index = self.add(["body", None, slots, self.rows(tree[2], slots), write_expression(tree)])
        params = []
        for name, default in tree[1]:
            number = None
            if default is not None:
                number = self.add(["late", (), slots, self.rows(default, slots), write_expression(default)])
            params.append((name, number))
        self.blocks[index][1] = tuple(params)
        return index

    def rows(self, node, slots, start=0):
        word = node[0]
        leaves = dict(number=lambda: r(node[1]), string=lambda: node[1], truth=lambda: node[1], gone=lambda: None, formula=lambda: read_formula(node[1]))
        if word in leaves:
            return [("literal", leaves[word]())]
        if word == "name":
            return [("slot", slots.index(node[1])) if node[1] in slots else ("name", node[1])]
        if word == "set":
            return self.rows(node[2], slots, start) + [("set", slots.index(node[1])) if node[1] in slots else ("put", node[1])]
        if word == "op":
            parts = []
            for part in node[2:]:
                parts.append(self.rows(part, slots, start + sum(map(len, parts))))
            if all(len(rows) == 1 and rows[0][0] == "literal" for rows in parts):
                try:
                    told = ("op", node[1]) + tuple(("told", rows[0][1]) for rows in parts)
                    return [("literal", Folding(()).tree(told, None))]
                except Exception:
                    pass
            return sum(parts, []) + [("operator", node[1], len(parts))]
        if word == "block":
            rows = []
            for index, part in enumerate(node[1]):
                rows += [("drop",)] if index else []
                rows += self.rows(part, slots, start + len(rows))
            return rows or [("literal", None)]
        if word == "if":
            test = self.rows(node[1], slots, start)
            one = self.rows(node[2], slots, start + len(test) + 1)
            behind = start + len(test) + len(one) + 2
            other = self.rows(node[3], slots, behind)
            return test + [("unless", behind)] + one + [("jump", behind + len(other))] + other
        if word == "fun":
            return [("function", node)]
        if word == "call":
            lates = [("late", tree) for _, tree in node[2]]
            return self.rows(node[1], slots, start) + lates + [("call", tuple(name for name, _ in node[2]))]
        if word == "with":
            return self.rows(node[1], slots, start) + [("with", node[2])]
        if word == "try":
            return [node]
        if word == "text":
            return [node]
        return self.rows(node[1], slots, start) + [("stop",) if word == "stop" else ("pick", node[2])]


class Folding(Slow):
    def do_told(self, tree, place):
        return tree[1]


class CompiledTest(Case):
    def rows(self, text, *expected):
        """The rows of the one statement of a program, without those around them."""
        code = code_of(text)
        self.assertEqual(code[0].rows[0], ("statement", 0))
        self.assertEqual(code[0].rows[-1], END)
        self.assertEqual(code[0].rows[1:-1], expected)
        return code

    def test_each_part(self):
        self.rows("12", ("literal", r(12)))
        self.rows('"s"', ("literal", "s"))
        self.rows("TRUE", ("literal", True))
        self.rows("GONE", ("literal", None))
        self.rows("(y ~ a)", ("literal", read_formula("y ~ a")))
        self.rows("x", ("name", "x"))
        self.rows("x <- 1", ("literal", r(1)), ("set", 0))
        self.rows("{ x <- 1; x }", ("literal", r(1)), ("set", 0), ("drop",), ("slot", 0))
        self.rows("x + 1", ("name", "x"), ("literal", r(1)), ("operator", "+", 2))
        self.rows("-x", ("name", "x"), ("operator", "-", 1))
        self.rows("!x", ("name", "x"), ("operator", "!", 1))
        for sign in SIGNS:
            self.rows(f"x {sign} y", ("name", "x"), ("name", "y"), ("operator", sign, 2))
        self.rows("{ x; y }", ("name", "x"), ("drop",), ("name", "y"))
        self.rows("{}", ("literal", None))
        self.rows("{ {}; {} }", ("literal", None), ("drop",), ("literal", None))
        self.rows("if (x) y else z", ("name", "x"), ("unless", 5), ("name", "y"), ("jump", 6), ("name", "z"))
        self.rows("if (x) { y; z } else {}", ("name", "x"), ("unless", 7), ("name", "y"), ("drop",), ("name", "z"), ("jump", 8), ("literal", None))
        self.rows("fun() x", ("function", 1))
        self.rows("f(a, x = b)", ("name", "f"), ("late", 1), ("late", 2), ("call", (None, "x")))
        self.rows("f()", ("name", "f"), ("call", ()))
        self.rows("f(1)(2)", ("name", "f"), ("late", 1), ("call", (None,)), ("late", 2), ("call", (None,)))
        self.rows("with (t) a", ("name", "t"), ("with", 1))
        self.rows("try(a, f)", ("try", 1, 2))
        self.rows("stop(a)", ("name", "a"), ("stop",))
        self.rows("text(x)", ("text", "x"))
        self.rows("a$x", ("name", "a"), ("pick", "x"))

    def test_statements(self):
        self.assertEqual(code_of("").blocks, (Block("program", (), (), (("literal", None), END)),))
        rows = code_of("1; x <- 2; x")[0].rows
        self.assertEqual(rows, (
            ("statement", 0), ("literal", r(1)), ("drop",), ("statement", 1), ("literal", r(2)), ("set", 0), ("drop",), ("statement", 2), ("slot", 0), END,
        ))

    def test_slots(self):
        code = code_of("b <- 1; a <- { d <- 2; f({ c <- 3 }) }; b <- 4; try({ e <- 1 }, { g <- 2 }); fun() { h <- 1 }; with ({ i <- 1 }) { j <- 2 }; if ({ k <- 1 }) l else { m <- 1 }")
        self.assertEqual(code[0].slots, ("b", "a", "d", "c", "e", "g", "i", "k", "m"))
        for block in code.blocks[1:]:
            expected = {"late": code[0].slots, "body": ("h",), "with": ()}[block.kind]
            self.assertEqual(block.slots, expected)
        body = code_of("fun(y, x = { b <- 1; x }) { a <- 2; x <- 3; f({ c <- 4 }); fun(q) { d <- 5 } }")
        self.assertEqual(body[0].slots, ())
        self.assertEqual(body[1].slots, ("y", "x", "b", "a", "c"))
        self.assertEqual([block.slots for block in body.blocks[2:]], [("y", "x", "b", "a", "c"), ("y", "x", "b", "a", "c"), ("q", "d")])
        within = code_of("with (t) { x <- 1; f({ y <- x }); with (u) { z <- 2 } }")
        self.assertEqual([(block.kind, block.slots) for block in within], [("program", ()), ("with", ()), ("late", ()), ("with", ())])
        self.assertEqual(within[1].rows[:4], (("literal", r(1)), ("put", "x"), ("drop",), ("name", "f")))
        self.assertEqual(within[2].rows, (("name", "x"), ("put", "y"), END))
        # A statement begins ahead of what it puts.
        self.assertEqual(code_of("x <- { y <- 1 }")[0].slots, ("x", "y"))
        self.assertEqual(code_of("f({ y <- 1 }, { x <- 2 })({ z <- 3 })")[0].slots, ("y", "x", "z"))

    def test_order_of_blocks(self):
        code = code_of("f(1, g(2), fun(a = 3, b, c = 4) h(5)); try(6, 7); with (8) 9; fun() 0")
        self.assertEqual([block.text for block in code], [
            "", "1", "g(2)", "fun(a = 3, b, c = 4) h(5)", "6", "7", "", "fun() 0", "2", "fun(a = 3, b, c = 4) h(5)", "3", "4", "5",
        ])
        self.assertEqual([block.kind for block in code], [
            "program", "late", "late", "late", "late", "late", "with", "body", "late", "body", "late", "late", "late",
        ])
        self.assertEqual(code[9].params, (("a", 10), ("b", None), ("c", 11)))
        self.assertEqual(code[3].rows, (("function", 9), END))
        self.assertEqual(code[10].slots, ("a", "b", "c"))
        deep = code_of("fun(x = fun(y = 1) y) x")
        self.assertEqual([block.text for block in deep], ["", "fun(x = fun(y = 1) y) x", "fun(y = 1) y", "fun(y = 1) y", "1"])

    def test_texts(self):
        code = code_of('f(  1+2 , x = ( {a;b} ) )\nfun( x ) (x)')
        self.assertEqual([block.text for block in code], ["", "1 + 2", "{ a; b }", "fun(x) x"])

    def test_folding(self):
        for text, value in (
            ("2 + 3", r(5)), ("-2", r(-2)), ("!TRUE", False), ('"a" + "b"', "ab"), ("1 + 2 * 3", r(7)), ("{ 2 } + { 3 }", r(5)), ("-{ 2 }", r(-2)), ("1 / 2", r("1/2")),
            ("1 == TRUE", False), ("GONE == {}", True), ("(y ~ a) == (y ~ a)", True), ("1 < 2 & 2 <= 2", True), ("{ { 1 } + 1 }", r(2)), ("--3", r(3)),
            ('"' + "a" * 200 + '" + "' + "b" * 200 + '"', "a" * 200 + "b" * 200),
        ):
            self.rows(text, ("literal", value))
        self.rows("1 / 0", ("literal", r(1)), ("literal", r(0)), ("operator", "/", 2))
        self.rows("1 + TRUE", ("literal", r(1)), ("literal", True), ("operator", "+", 2))
        self.rows("-GONE", ("literal", None), ("operator", "-", 1))
        self.rows("1 + 2 / 0", ("literal", r(1)), ("literal", r(2)), ("literal", r(0)), ("operator", "/", 2), ("operator", "+", 2))
        self.rows("(1 + 2) / (3 - 3)", ("literal", r(3)), ("literal", r(0)), ("operator", "/", 2))
        self.rows("{ 1; 2 } + 3", ("literal", r(1)), ("drop",), ("literal", r(2)), ("literal", r(3)), ("operator", "+", 2))
        self.rows("{ x <- 2 } + 3", ("literal", r(2)), ("set", 0), ("literal", r(3)), ("operator", "+", 2))
        self.rows("x + 1 + 2", ("name", "x"), ("literal", r(1)), ("operator", "+", 2), ("literal", r(2)), ("operator", "+", 2))
        self.rows("1 + 2 + x", ("literal", r(3)), ("name", "x"), ("operator", "+", 2))
        half = '"' + "a" * 200 + '"'
        self.rows(f'{half} + ({half} + "a")', ("literal", "a" * 200), ("literal", "a" * 201), ("operator", "+", 2))
        big = "9" * 60
        power = f"{big} * {big}"
        rows = code_of(" * ".join([f"({power})"] * 16))[0].rows
        self.assertEqual(len(rows), 3)
        rows = code_of(" * ".join([f"({power})"] * 17))[0].rows
        self.assertEqual([row[0] for row in rows], ["statement", "literal", "literal", "operator", "end"])
        # Nothing else is folded, and no text is changed.
        self.rows("if (TRUE) 1 else 2", ("literal", True), ("unless", 5), ("literal", r(1)), ("jump", 6), ("literal", r(2)))
        code = self.rows("f(1 + 2)", ("name", "f"), ("late", 1), ("call", (None,)))
        self.assertEqual((code[1].rows, code[1].text), ((("literal", r(3)), END), "1 + 2"))
        self.rows("if (x) 1 + 2 else 3 * 3", ("name", "x"), ("unless", 5), ("literal", r(3)), ("jump", 6), ("literal", r(9)))
        self.rows("(if (x) 1 else 2) + (1 + 1)", ("name", "x"), ("unless", 5), ("literal", r(1)), ("jump", 6), ("literal", r(2)), ("literal", r(2)), ("operator", "+", 2))

    def test_by_chance(self):
        rng = random.Random(1301)
        for _ in range(500):
            made = program(rng, depth=rng.randint(1, 6))
            if is_program(made):
                code = compiled(made)
                self.assertTrue(is_sound(code))
                blocks = [(one.kind, one.params, one.slots, one.rows, one.text) for one in code]
                expected = [(kind, params, slots, tuple(rows), text) for kind, params, slots, rows, text in SlowCode(made).blocks]
                self.assertEqual(blocks, expected)
                self.assertEqual([len(told) for told in depths(code)], [len(block.rows) for block in code])

    def test_greatest_programs(self):
        made = (("call", ("call", ("name", "f"), ((None, ("gone",)),) * 8), ((None, ("gone",)),) * 8),) * 105
        self.assertTrue(is_program(made))
        code = compiled(made)
        self.assertEqual(len(code), 1 + 105 * 16)
        wide = ("try", ("number", 1), ("number", 2))
        made = (wide,) * 666
        self.assertEqual(len(compiled(made)), 1333)
        self.assertTrue(is_sound(compiled(made)))
        chain = ("gone",)
        for _ in range(29):
            chain = ("stop", chain)
        self.assertEqual(len(compiled((chain,))[0].rows), 32)

    def test_wrong_programs(self):
        self.all_rejected(InvalidTree, compiled, [()])
        self.raises(InvalidTree, compiled, (("set", "in", ("gone",)),))
        self.raises(InvalidTree, compiled, [("gone",)])


class BlockTest(Case):
    def test_properties(self):
        block = Block("body", (("x", None), ("y", 7)), ("x", "y"), ROWS, "some text")
        self.assertEqual((block.kind, block.params, block.slots, block.rows, block.text), ("body", (("x", None), ("y", 7)), ("x", "y"), ROWS, "some text"))
        self.assertEqual(Block("with", (), (), ()).text, "")
        self.assertRaises(TypeError, iter, block)
        for kind in ("program", "body", "late", "with"):
            self.assertEqual(Block(kind, (), (), (END,)).kind, kind)

    def test_equal(self):
        block = Block("body", (("x", None),), ("x",), (("literal", r(1)), END), "t")
        self.assertEqual(block, Block("body", (("x", None),), ("x",), (("literal", r("1")), END), text="t"))
        for other in (
            Block("late", (("x", None),), ("x",), (("literal", r(1)), END), "t"), Block("body", (("x", 1),), ("x",), (("literal", r(1)), END), "t"),
            Block("body", (("x", None),), ("y",), (("literal", r(1)), END), "t"), Block("body", (("x", None),), ("x",), (("literal", True), END), "t"),
            Block("body", (("x", None),), ("x",), (("literal", r(1)), END), "u"), Block("body", (("x", None),), ("x",), (("literal", r(1)),), "t"),
        ):
            self.assertNotEqual(block, other)
        for value in wrong_values():
            self.assertFalse(block == value)
            self.assertTrue(block != value)

    def test_wrong_arguments(self):
        for value in wrong_values() + ["Program", "block"]:
            self.raises(InvalidCode, Block, value, (), (), ())
            if not isinstance(value, str):
                self.raises(InvalidCode, Block, "late", (), (), (), value)
            if value != ():
                self.raises(InvalidCode, Block, "late", value, (), ())
                self.raises(InvalidCode, Block, "late", (), (), value)
                if value != ("a",) and value != ("a", "a"):
                    self.raises(InvalidCode, Block, "late", (), value, ())
        for params in ((("x",),), (("x", None, 1),), (("in", None),), (("x", -1),), (("x", True),), (("x", 20001),), (["x", None],), ((None, 1),), [("x", 1)]):
            self.raises(InvalidCode, Block, "body", params, (), ())
        self.assertEqual(Block("body", (("x", 20000),), (), ()).params, (("x", 20000),))
        for slots in (("x", 1), ("x", "in"), ["x"], ("X",)):
            self.raises(InvalidCode, Block, "body", (), slots, ())
        # Different names are wanted of sound codes alone.
        self.assertEqual(Block("body", (), ("x", "x"), ()).slots, ("x", "x"))

    def test_rows(self):
        for row in ROWS:
            self.assertEqual(Block("late", (), (), (row,)).rows, (row,))
            wrong = [list(row), row + (None,), row + (0,), row[:-1], (row[0].upper(),) + row[1:], (None,) + row[1:], ([row[0]],) + row[1:]]
            if row[0] in ("slot", "set", "statement", "jump", "unless", "function", "late", "with"):
                wrong += [(row[0], value) for value in (-1, True, False, 20001, 10 ** 60, None, "1", "x", r(1), (1,))]
                self.assertTrue(Block("late", (), (), ((row[0], 0), (row[0], 20000))))
            if row[0] in ("name", "put", "pick", "text"):
                wrong += [(row[0], value) for value in (0, None, "in", "X", "abcdefghi", ("x",), ["x"])]
            if row[0] == "call":
                wrong += [("call", value) for value in (None, 1, "x", ["x"], ("in",), (1,), (("x",),))]
            if row[0] == "literal":
                wrong += [("literal", value) for value in (0, 1, (), [], {}, END, Block("late", (), (), ()))]
            if row[0] == "try":
                wrong += [("try", 1, True), ("try", -1, 1), ("try", 1, 20001), ("try", None, 1)]
            if row[0] == "operator":
                wrong += [("operator", "+", 1), ("operator", "!", 2), ("operator", "+", 3), ("operator", "+", True), ("operator", "<-", 2), ("operator", None, 2), ("operator", ["+"], 2), ("operator", "-", 0)]
            for one in wrong:
                with self.subTest(row=one):
                    self.raises(InvalidCode, Block, "late", (), (), (one,))
        for sign in SIGNS:
            self.assertTrue(Block("late", (), (), (("operator", sign, 2),)))
        self.assertTrue(Block("late", (), (), (("operator", "-", 1),)))


class CodeTest(Case):
    def test_code(self):
        blocks = (Block("program", (), (), (("late", 1), ("drop",), END)), Block("late", (), (), (END,)))
        code = Code(blocks)
        self.assertEqual((code.blocks, len(code), code[0], code[1], list(code), str(code)), (blocks, 2, blocks[0], blocks[1], list(blocks), "code of 2 blocks, 4 rows"))
        self.assertEqual(str(Code((Block("with", (), (), ()),))), "code of 1 blocks, 0 rows")
        self.assertEqual(code, Code(tuple(Block(one.kind, one.params, one.slots, one.rows) for one in blocks)))
        self.assertNotEqual(code, Code(blocks[::-1]))
        self.assertNotEqual(code, Code(blocks[:1]))
        for value in wrong_values():
            self.assertFalse(code == value)
            self.assertTrue(code != value)
            if type(value) is not int or value not in (0, 1):
                self.number(value, lambda: code[value])
        self.number(2, lambda: code[2])
        self.number(-1, lambda: code[-1])

    def test_wrong_arguments(self):
        block = Block("program", (), (), (END,))
        self.all_rejected(InvalidCode, Code)
        for value in ((), [block], (block, None), (block, (block,)), block, (Code((block,)),)):
            self.raises(InvalidCode, Code, value)

    def test_limits(self):
        block = Block("late", (), (), (("drop",),) * 10)
        self.assertEqual(len(Code((block,) * 2000)), 2000)
        self.too_many(2000, Code, (block,) * 2001)
        self.too_many(20000, Code, (block,) * 1999 + (Block("late", (), (), (("drop",),) * 11),))
        self.assertEqual(str(Code((block,) * 2000)), "code of 2000 blocks, 20000 rows")
        self.too_many(20000, Code, (Block("late", (), (), (END,) * 20001),))
        self.too_many(2000, Code, (Block("late", (), (), (END,) * 20001),) * 2001)
        self.raises(InvalidCode, Code, (block,) * 2001 + (None,))
