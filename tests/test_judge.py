"""Stage 13: sound codes."""

import random

from tests.programs import program
from tests.support import Case, r, wrong_values
from worthstead.code.blocks import Block, Code
from worthstead.code.judge import depths, is_sound
from worthstead.code.making import compiled
from worthstead.errors import InvalidCode
from worthstead.lang.reader import read_program
from worthstead.lang.trees import is_program

END = ("end",)
NONE = ("literal", None)
LATE = Block("late", (), (), (NONE, END))


def program_of(*rows, slots=()):
    return Block("program", (), slots, rows)


def late_of(*rows, slots=()):
    return Block("late", (), slots, rows)


def body_of(params, slots, *rows):
    return Block("body", params, slots, rows or (NONE, END))


class SoundTest(Case):
    def sound(self, *blocks):
        code = Code(blocks)
        self.assertTrue(is_sound(code))
        return depths(code)

    def unsound(self, *blocks):
        code = Code(blocks)
        self.assertFalse(is_sound(code))
        self.raises(InvalidCode, depths, code)

    def test_values_of_every_kind(self):
        for value in wrong_values() + [LATE, program_of(NONE, END)]:
            self.assertFalse(is_sound(value))
            self.raises(InvalidCode, depths, value)

    def test_slots_of_rows(self):
        for word in ("slot", "set"):
            rows = (NONE, (word, 1), END) if word == "set" else ((word, 1), END)
            self.sound(program_of(*rows, slots=("x", "y")))
            self.unsound(program_of(*rows, slots=("x",)))
            self.unsound(program_of(*rows))
        self.unsound(program_of(("slot", 20000), END, slots=("x",)))
        # Also where the row cannot be come to.
        self.unsound(program_of(NONE, END, ("slot", 0), END))

    def test_jumps(self):
        self.assertEqual(self.sound(program_of(("jump", 1), NONE, END)), ((0, 0, 1),))
        self.assertEqual(self.sound(program_of(NONE, ("jump", 3), ("drop",), END)), ((0, 1, None, 1),))
        self.assertEqual(self.sound(program_of(NONE, NONE, ("unless", 4), ("jump", 4), END)), ((0, 1, 2, 1, 1),))
        for target in (0, 1, 3, 4, 20000):
            self.unsound(program_of(NONE, ("jump", target), END))
            self.unsound(program_of(NONE, NONE, ("unless", target if target != 3 else 4), END))
        self.unsound(program_of(NONE, NONE, ("unless", 2), END))
        self.unsound(program_of(NONE, END, ("jump", 1), END))

    def test_blocks_of_rows(self):
        self.sound(program_of(("late", 1), END), LATE)
        self.sound(program_of(("function", 1), END), body_of((), ()))
        self.sound(program_of(NONE, ("with", 1), END), Block("with", (), (), (NONE, END)))
        self.sound(program_of(("try", 1, 2), END), LATE, LATE)
        self.sound(program_of(("try", 2, 1), END), LATE, LATE)
        self.unsound(program_of(("late", 1), END))
        self.unsound(program_of(("late", 2), END), LATE)
        self.unsound(program_of(("late", 20000), END), LATE)
        self.unsound(program_of(("late", 0), END))

    def test_named_just_once(self):
        self.unsound(program_of(NONE, END), LATE)
        self.unsound(program_of(("late", 1), ("drop",), ("late", 1), END), LATE)
        self.unsound(program_of(("try", 1, 1), END), LATE)
        self.sound(program_of(("late", 1), ("drop",), ("late", 2), END), LATE, LATE)
        self.unsound(program_of(("late", 1), END), late_of(("late", 2), END), late_of(("late", 1), END))
        self.sound(program_of(("late", 1), END), late_of(("late", 2), END), LATE)
        # By a block with a lesser index: not by itself, nor by a later one.
        self.unsound(program_of(("late", 1), END), late_of(("late", 1), END))
        self.unsound(program_of(("late", 2), END), LATE, late_of(("late", 1), END))
        self.unsound(program_of(NONE, END), late_of(("late", 1), END))
        # As a default, or by a row, not both.
        body = body_of((("x", 2),), ("x",))
        late = late_of(("slot", 0), END, slots=("x",))
        self.sound(program_of(("function", 1), END), body, late)
        self.unsound(program_of(("function", 1), END), body_of((("x", 2), ("y", 2)), ("x", "y")), late_of(NONE, END, slots=("x", "y")))
        self.unsound(program_of(("function", 1), END), body_of((("x", 2),), ("x",), ("late", 2), END), late)
        self.unsound(program_of(("function", 2), END), late, body_of((("x", 1),), ("x",)))
        self.unsound(program_of(("function", 1), END), body_of((("x", 0),), ("x",)))
        self.unsound(program_of(("function", 1), END), body_of((("x", 1),), ("x",)))
        self.unsound(program_of(("function", 1), END), body_of((("x", 3),), ("x",)), late)
        # Rows that cannot be come to name blocks, too.
        self.sound(program_of(NONE, END, ("late", 1), END), LATE)

    def test_kinds(self):
        bodies = {"late": LATE, "body": body_of((), ()), "with": Block("with", (), (), (NONE, END)), "program": program_of(NONE, END)}
        wanted = {"late": (("late", 1), END), "body": (("function", 1), END), "with": (NONE, ("with", 1), END)}
        for kind, rows in wanted.items():
            for other, block in bodies.items():
                (self.sound if kind == other else self.unsound)(program_of(*rows), block)
        for other, block in bodies.items():
            if other != "program":
                self.unsound(Block(other, (), (), (NONE, END)))
            if other != "late":
                self.unsound(program_of(("try", 1, 2), END), LATE, block)
                self.unsound(program_of(("try", 1, 2), END), block, LATE)
                self.unsound(program_of(("function", 1), END), body_of((("x", 2),), ("x",)), Block(other, (), ("x",), (NONE, END)))

    def test_slots_of_blocks(self):
        self.sound(program_of(("late", 1), END, slots=("x", "y")), late_of(NONE, END, slots=("x", "y")))
        for slots in ((), ("x",), ("y", "x"), ("x", "y", "z")):
            self.unsound(program_of(("late", 1), END, slots=("x", "y")), late_of(NONE, END, slots=slots))
            self.unsound(program_of(("try", 1, 2), END, slots=("x", "y")), late_of(NONE, END, slots=("x", "y")), late_of(NONE, END, slots=slots))
            self.unsound(program_of(("function", 1), END), body_of((("x", 2),), ("x", "y")), late_of(NONE, END, slots=slots))
        self.sound(program_of(("function", 1), END, slots=("z",)), body_of((("x", 2),), ("x", "y")), late_of(NONE, END, slots=("x", "y")))
        self.unsound(program_of(("function", 1), END, slots=("z",)), body_of((("x", 2),), ("x", "y")), late_of(NONE, END, slots=("z",)))
        self.sound(program_of(("function", 1), END, slots=("z",)), body_of((), ("z", "y")))
        self.sound(program_of(NONE, ("with", 1), END, slots=("x",)), Block("with", (), (), (NONE, END)))
        self.unsound(program_of(NONE, ("with", 1), END, slots=("x",)), Block("with", (), ("x",), (NONE, END)))
        # Different names.
        self.unsound(program_of(NONE, END, slots=("x", "x")))
        self.unsound(program_of(("function", 1), END), body_of((), ("y", "x", "y")))

    def test_params(self):
        names = tuple("abcdefgh")
        self.sound(program_of(("function", 1), END), body_of(tuple((name, None) for name in names), names))
        self.unsound(program_of(("function", 1), END), body_of(tuple((name, None) for name in names + ("i",)), names + ("i",)))
        two = (("x", None), ("y", None))
        self.sound(program_of(("function", 1), END), body_of(two, ("x", "y", "z")))
        for slots in ((), ("x",), ("y", "x"), ("x", "z", "y"), ("z", "x", "y")):
            self.unsound(program_of(("function", 1), END), body_of(two, slots))
        self.unsound(program_of(("function", 1), END), body_of((("x", None), ("x", None)), ("x", "x")))
        self.unsound(program_of(("function", 1), END), body_of((("x", None), ("x", None)), ("x",)))

    def test_params_of_others(self):
        for kind, rows in (("late", (("late", 1), END)), ("with", (NONE, ("with", 1), END))):
            self.unsound(program_of(*rows), Block(kind, (("x", None),), (), (NONE, END)))
        self.unsound(Block("program", (("x", None),), ("x",), (NONE, END)))

    def test_statements(self):
        self.sound(program_of(("statement", 0), NONE, ("drop",), ("statement", 1), ("statement", 2), NONE, END))
        for rows in (
            (("statement", 1), NONE, END), (("statement", 0), ("statement", 0), NONE, END), (("statement", 1), ("statement", 0), NONE, END),
            (("statement", 0), ("statement", 2), NONE, END),
        ):
            self.unsound(program_of(*rows))
        self.unsound(program_of(("late", 1), END), late_of(("statement", 0), NONE, END))
        self.unsound(program_of(("function", 1), END), body_of((), (), ("statement", 0), NONE, END))

    def test_depths(self):
        self.assertEqual(self.sound(program_of(NONE, NONE, ("operator", "+", 2), ("operator", "-", 1), END)), ((0, 1, 2, 1, 1),))
        self.assertEqual(self.sound(program_of(NONE, NONE, NONE, ("call", ("x", None)), END)), ((0, 1, 2, 3, 1),))
        self.assertEqual(self.sound(program_of(NONE, ("call", ()), ("pick", "a"), ("put", "x"), END)), ((0, 1, 1, 1, 1),))
        self.assertEqual(self.sound(program_of(NONE, ("stop",), END)), ((0, 1, None),))
        self.assertEqual(self.sound(program_of(NONE, NONE, ("stop",))), ((0, 1, 2),))
        self.assertEqual(self.sound(program_of(("name", "x"), ("unless", 4), ("text", "x"), ("stop",), NONE, END)), ((0, 1, 0, 1, 0, 1),))
        for rows in (
            (END,), (("drop",), NONE, END), (NONE, NONE, END), (("operator", "-", 1), END), (NONE, ("operator", "+", 2), END), (("stop",),), (("put", "x"), END),
            (NONE, ("call", (None,)), END), (("call", ()), END), (("pick", "x"), END), (("unless", 1), NONE, END), (NONE, ("drop",), END),
            # Depths that differ by two ways.
            (NONE, ("unless", 3), NONE, NONE, END), (NONE, ("unless", 4), NONE, ("jump", 5), ("drop",), END), (NONE, NONE, ("unless", 4), ("drop",), END),
        ):
            self.unsound(program_of(*rows))
        self.unsound(program_of(("with", 1), END), Block("with", (), (), (NONE, END)))
        # Where rows cannot be come to, any depth does.
        self.sound(program_of(NONE, ("jump", 4), ("drop",), ("drop",), END))
        self.sound(program_of(NONE, END, END, ("drop",), END))

    def test_last_rows(self):
        self.unsound(program_of())
        self.unsound(program_of(NONE))
        self.unsound(program_of(NONE, END, NONE))
        self.unsound(program_of(NONE, END, ("jump", 20)))
        self.unsound(program_of(("late", 1), END), late_of())
        self.sound(program_of(NONE, END, ("stop",)))

    def test_programs(self):
        rng = random.Random(1302)
        for _ in range(200):
            made = program(rng, depth=4)
            if is_program(made):
                code = compiled(made)
                self.assertTrue(is_sound(code))
                self.changed(rng, code)

    def changed(self, rng, code):
        """A code with one row taken out, or two exchanged, is judged as a slow judge says."""
        number = rng.randrange(len(code))
        rows = list(code[number].rows)
        at = rng.randrange(len(rows))
        if rng.random() < 0.5:
            del rows[at]
        else:
            other = rng.randrange(len(rows))
            rows[at], rows[other] = rows[other], rows[at]
        block = Block(code[number].kind, code[number].params, code[number].slots, tuple(rows), code[number].text)
        changed = Code(code.blocks[:number] + (block,) + code.blocks[number + 1:])
        self.assertEqual(is_sound(changed), self.slow(changed))

    def slow(self, code):
        named = []
        for number, block in enumerate(code):
            rows = block.rows
            if not rows or rows[-1][0] not in ("end", "stop"):
                return False
            statements = [row[1] for row in rows if row[0] == "statement"]
            if statements != (list(range(len(statements))) if number == 0 else []):
                return False
            for at, row in enumerate(rows):
                if row[0] in ("jump", "unless") and not at < row[1] < len(rows):
                    return False
                named += [index for index in row[1:] if row[0] in ("function", "late", "with", "try")]
            named += [default for _, default in block.params if default is not None]
            if not self.slow_depths(rows):
                return False
        return sorted(named) == list(range(1, len(code)))

    def slow_depths(self, rows):
        """Go all ways with their depths."""
        ways, seen = [(0, 0)], {}
        while ways:
            at, depth = ways.pop()
            row = rows[at]
            if seen.setdefault(at, depth) != depth:
                return False
            takes = {"operator": row[-1], "call": 1 + len(row[-1]) if row[0] == "call" else 0}.get(row[0])
            if takes is None:
                takes = int(row[0] in ("put", "set", "drop", "unless", "pick", "with", "stop", "end"))
            if depth < takes or (row[0] == "end" and depth != 1):
                return False
            left = depth - takes + int(row[0] not in ("drop", "statement", "jump", "unless"))
            if row[0] == "jump":
                ways.append((row[1], left))
            elif row[0] not in ("end", "stop"):
                ways.append((at + 1, left))
                if row[0] == "unless":
                    ways.append((row[1], left))
        return True

    def test_greatest_codes(self):
        rows = tuple(row for at in range(1999) for row in (("late", at + 1), ("drop",))) + (NONE, END)
        code = Code((program_of(*rows),) + (LATE,) * 1999)
        self.assertTrue(is_sound(code))
        long = program_of(*((NONE, ("drop",)) * 9999 + (NONE, END)))
        self.assertTrue(is_sound(Code((long,))))
        self.assertEqual(len(depths(Code((long,)))[0]), 20000)
        self.assertTrue(is_sound(Code((program_of(("jump", 19998), *((NONE,) * 19997), ("literal", r(1)), END),))))


class ExampleTest(Case):
    def test_depths_of_programs(self):
        code = compiled(read_program("if (a) b else stop(c); f(1, 2)"))
        self.assertEqual(depths(code), ((0, 0, 1, 0, 1, 0, 1, 1, 0, 0, 1, 2, 3, 1), (0, 1), (0, 1)))
