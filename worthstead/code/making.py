"""The codes of programs."""

from worthstead.code.blocks import Block, Code
from worthstead.code.slots import names_put, slots_of_body
from worthstead.exact.ratios import Ratio
from worthstead.formulas.reader import read_formula
from worthstead.lang.faults import Fault
from worthstead.lang.trees import check_program
from worthstead.lang.values import operated
from worthstead.lang.writer import text_of_tree


def compiled(program):
    """The code of a program."""
    check_program(program)
    wanted = Wanted()
    wanted.want("program", None, (), tuple(names_put(program)), "")
    blocks = []
    # While a block is made, further ones come to be wanted behind those that are.
    while len(blocks) < wanted.how_many():
        kind, tree, params, slots, text = wanted.at(len(blocks))
        maker = Maker(wanted, slots)
        if kind == "program":
            maker.add_program(program)
        else:
            maker.add_node(tree)
        blocks.append(Block(kind, params, slots, maker.ended_rows(), text))
    return Code(tuple(blocks))


class Wanted:
    """What the blocks of a code are to be made of, in the order in which they are counted."""

    def __init__(self):
        self._makings = []

    def how_many(self):
        """How many blocks are wanted up to now."""
        return len(self._makings)

    def at(self, index):
        """The kind, tree, parameters, slots and text of a block."""
        return self._makings[index]

    def want(self, kind, tree, params, slots, text):
        """Want one more block, and tell its index."""
        self._makings.append((kind, tree, params, slots, text))
        return len(self._makings) - 1

    def want_late(self, tree, slots):
        """Want the block of what is reckoned late."""
        return self.want("late", tree, (), slots, text_of_tree(tree))

    def want_body(self, tree):
        """Want the block of the body of a function, and behind it those of the defaults."""
        _, params, inner = tree
        slots = slots_of_body(params, inner)
        index = self.how_many()
        pairs = []
        for name, default in params:
            following = index + 1 + len([other for _, other in pairs if other is not None])
            pairs.append((name, None if default is None else following))
        self.want("body", inner, tuple(pairs), slots, text_of_tree(tree))
        for _, default in params:
            if default is not None:
                self.want_late(default, slots)
        return index


class Maker:
    """The rows of a block on the way of being made."""

    def __init__(self, wanted, slots):
        self._wanted = wanted
        self._slots = slots
        self._rows = []

    def ended_rows(self):
        """All rows, and the one that ends the block."""
        return tuple(self._rows + [("end",)])

    def add_program(self, program):
        """Add the rows of all statements of a program."""
        if not program:
            self._rows.append(("literal", None))
        for index, statement in enumerate(program):
            if index > 0:
                self._rows.append(("drop",))
            self._rows.append(("statement", index))
            self.add_node(statement)

    def add_node(self, node):
        """Add the rows of a tree or a statement."""
        word = node[0]
        if word == "set":
            self.add_node(node[2])
            self._rows.append(self.by_slot(node[1], "set", "put"))
        elif word == "op":
            self.add_operator(node)
        elif word == "block":
            self.add_statements(node[1])
        elif word == "if":
            self.add_choice(node)
        elif word == "fun":
            self._rows.append(("function", self._wanted.want_body(node)))
        elif word == "call":
            self.add_call(node)
        elif word == "with":
            self.add_node(node[1])
            self._rows.append(("with", self._wanted.want("with", node[2], (), (), "")))
        elif word == "try":
            parts = [self._wanted.want_late(part, self._slots) for part in node[1:]]
            self._rows.append(("try", parts[0], parts[1]))
        else:
            self.add_simple(node)

    def by_slot(self, name, known, unknown):
        """The row that tells a name by its slot, or by itself if it has none."""
        return (known, self._slots.index(name)) if name in self._slots else (unknown, name)

    def add_simple(self, node):
        """Add the rows of a tree with one part, or with none."""
        word = node[0]
        if word == "name":
            self._rows.append(self.by_slot(node[1], "slot", "name"))
        elif word == "stop":
            self.add_node(node[1])
            self._rows.append(("stop",))
        elif word == "pick":
            self.add_node(node[1])
            self._rows.append(("pick", node[2]))
        elif word == "text":
            self._rows.append(("text", node[1]))
        else:
            self._rows.append(("literal", literal_of(node)))

    def add_statements(self, statements):
        """Add the rows of the statements of a block."""
        if not statements:
            self._rows.append(("literal", None))
        for index, statement in enumerate(statements):
            if index > 0:
                self._rows.append(("drop",))
            self.add_node(statement)

    def add_choice(self, node):
        """Add the rows of a condition, and of the trees of which one is reckoned."""
        self.add_node(node[1])
        test = len(self._rows)
        self._rows.append(("unless", 0))
        self.add_node(node[2])
        jump = len(self._rows)
        self._rows.append(("jump", 0))
        self._rows[test] = ("unless", len(self._rows))
        self.add_node(node[3])
        self._rows[jump] = ("jump", len(self._rows))

    def add_call(self, node):
        """Add the rows of a call."""
        self.add_node(node[1])
        for _, tree in node[2]:
            self._rows.append(("late", self._wanted.want_late(tree, self._slots)))
        self._rows.append(("call", tuple([name for name, _ in node[2]])))

    def add_operator(self, node):
        """Add the rows of an operator, or the one literal that it is."""
        start = len(self._rows)
        literals = []
        for operand in node[2:]:
            ahead = len(self._rows)
            self.add_node(operand)
            literals = literals + literals_alone(self._rows[ahead:])
        total = len(node) - 2
        folded = folded_row(node[1], literals) if len(literals) == total else None
        if folded is None:
            self._rows.append(("operator", node[1], total))
        else:
            self._rows = self._rows[:start] + [folded]


def literals_alone(rows):
    """The value of one literal, in a list, if it is all there is."""
    return [rows[0][1]] if len(rows) == 1 and rows[0][0] == "literal" else []


def folded_row(sign, literals):
    """The row of the value of an operator with literals, or None if it raises a fault."""
    try:
        return "literal", operated(sign, literals)
    except Fault:
        return None


def literal_of(node):
    """The value of a tree without parts."""
    word = node[0]
    if word == "gone":
        return None
    if word == "number":
        return Ratio(node[1])
    return read_formula(node[1]) if word == "formula" else node[1]
