"""The programs and trees of texts.

What is begun and not yet ended is kept in a list, not in calls within calls, as brackets can be thousands deep.
"""

from worthstead.errors import InvalidFormula, ParseError, TooMany
from worthstead.formulas.reader import read_formula
from worthstead.lang.levels import AHEAD, CALL_LEVEL, LEVELS, LOOSE_WORDS, LOOSEST, TIGHTEST, least_left, level_of
from worthstead.lang.tokens import END, NEWLINE, NUMERAL, SIGN, STRING, WORD, Tokens
from worthstead.lang.trees import MOST_PARTS, are_within_bounds
from worthstead.names import is_name

MOST_CHARACTERS = 4000
PARTING = (";", "\n")
# What ends each part of these trees; nothing in particular ends a last part that has None.
ENDS = {"if": (")", "else", None), "with": (")", None), "try": (",", ")"), "stop": (")",)}
TRUTHS = {"TRUE": True, "FALSE": False}
# What is read next: a statement or the end of all statements, a tree, or what stands behind a tree.
STATEMENT = "statement"
TREE = "tree"
BEHIND = "behind"
DONE = "done"


def read_program(text):
    """The program of a text."""
    check_text(text)
    statements = Reader(text, STATEMENT).read_whole()
    if not are_within_bounds(list(statements), True):
        raise ParseError(len(text))
    return statements


def read_expression(text):
    """The tree of a text."""
    check_text(text)
    tree = Reader(text, TREE).read_whole()
    if not are_within_bounds([tree], False):
        raise ParseError(len(text))
    return tree


def check_text(value):
    """Raise an error unless the value is a string that can be read at all."""
    if not isinstance(value, str) or len(value) > MOST_CHARACTERS:
        raise ParseError(None)
    if not all([" " <= character <= "~" or character == NEWLINE for character in value]):
        raise ParseError(None)


class Reader:
    """A text on the way of being read, and what was read of it."""

    def __init__(self, text, state):
        self._text = text
        self._tokens = Tokens(text)
        self._state = state
        self._least = LOOSEST
        self._tree = None
        self._level = TIGHTEST
        # What is begun, each a list that begins with a word.
        self._begun = [["program", [], None] if state == STATEMENT else ["expression"]]

    def read_whole(self):
        """The statements of a program, or the one tree."""
        while self._state != DONE:
            if self._state == STATEMENT:
                self.begin_statement()
            elif self._state == TREE:
                self.begin_tree()
            else:
                self.go_on()
        return self._tree

    def want_tree(self, least):
        """Tell that a tree of at least this level comes next."""
        self._state = TREE
        self._least = least

    def give(self, tree, level):
        """Tell that a tree was read."""
        self._tree = tree
        self._level = level
        self._state = BEHIND

    def begin_statement(self):
        """Read what comes ahead of the tree of a statement, or the end of the statements."""
        while self._tokens.next_is(PARTING):
            self._tokens.take()
        if self.is_at_end_of_statements():
            self.end_statements()
            return
        name = self._tokens.name_ahead_of("<-")
        if name is not None:
            self._tokens.take()
            self._tokens.take()
        self._begun[-1][2] = name
        self.want_tree(LOOSEST)

    def is_at_end_of_statements(self):
        """Whether the next token ends the innermost statements."""
        if self._begun[-1][0] == "program":
            return self._tokens.peek()[0] == END
        return self._tokens.next_is(("}",))

    def end_statements(self):
        """End the innermost statements."""
        word, statements, _ = self._begun.pop()
        if word == "program":
            self._tree = tuple(statements)
            self._state = DONE
            return
        self._tokens.end_brackets("}")
        self.give(("block", tuple(statements)), TIGHTEST)

    def begin_tree(self):
        """Read a tree without parts, or the beginning of another one."""
        kind, text, _ = self._tokens.peek()
        if kind == NUMERAL:
            self.give(("number", int(self._tokens.take())), TIGHTEST)
        elif kind == STRING:
            self.give(("string", self._tokens.take()[1:-1]), TIGHTEST)
        elif kind == WORD:
            self.begin_with_word(text)
        elif kind == SIGN and text in AHEAD and AHEAD[text] >= self._least:
            self._begun.append(["ahead", self._tokens.take()])
            self.want_tree(AHEAD[text])
        elif kind == SIGN and text == "{":
            self._tokens.begin_brackets("{")
            self._begun.append(["block", [], None])
            self._state = STATEMENT
        else:
            self.begin_round()

    def begin_with_word(self, word):
        """Read a tree that begins with a word, or the beginning of it."""
        if word in TRUTHS:
            self.give(("truth", TRUTHS[self._tokens.take()]), TIGHTEST)
        elif word == "GONE":
            self._tokens.take()
            self.give(("gone",), TIGHTEST)
        elif is_name(word):
            self.give(("name", self._tokens.take()), TIGHTEST)
        elif word == "text":
            self._tokens.take()
            self._tokens.begin_brackets("(")
            name = self._tokens.take_name(())
            self._tokens.end_brackets(")")
            self.give(("text", name), TIGHTEST)
        elif word == "fun" and self._least == LOOSEST:
            self._tokens.take()
            self._tokens.begin_brackets("(")
            self.read_params([])
        elif word in ENDS and (self._least == LOOSEST or word not in LOOSE_WORDS):
            self._tokens.take()
            self._tokens.begin_brackets("(")
            self._begun.append(["parts", word, []])
            self.want_tree(LOOSEST)
        else:
            self._tokens.refuse()

    def begin_round(self):
        """Read a formula in brackets, or the beginning of another tree in brackets."""
        self._tokens.begin_brackets("(")
        spot = self._tokens.peek()[2]
        if self._tokens.next_is(("~",)):
            self.read_formula_from(spot + 1)
        elif self._tokens.name_ahead_of("~") is not None:
            self.read_formula_from(spot)
        else:
            self._begun.append(["round"])
            self.want_tree(LOOSEST)

    def read_formula_from(self, start):
        """Read a formula from an index up to its closing bracket, and this too."""
        end = closing_index(self._text, start)
        try:
            formula = read_formula(self._text[start:end].replace(NEWLINE, " "))
        except ParseError as e:
            raise ParseError(start + e.spot)
        except InvalidFormula:
            raise ParseError(end)
        except TooMany:
            raise ParseError(end)
        self._tokens.go_to(end)
        self._tokens.end_brackets(")")
        self.give(("formula", str(formula)), TIGHTEST)

    def read_params(self, params):
        """Read further parameters, up to the next one with a default, or to the end of them."""
        if not params and self._tokens.next_is((")",)):
            self.begin_body(params)
            return
        while True:
            name = self._tokens.take_name([other for other, _ in params])
            if self._tokens.next_is(("=",)):
                self._tokens.take()
                self._begun.append(["default", params, name])
                self.want_tree(LOOSEST)
                return
            params.append((name, None))
            if self.is_last_param(params):
                return

    def is_last_param(self, params):
        """Whether the parameters end here; what parts the next one from them is taken otherwise."""
        if self._tokens.next_is((",",)) and len(params) < MOST_PARTS:
            self._tokens.take()
            return False
        self.begin_body(params)
        return True

    def begin_body(self, params):
        """Read the end of the parameters."""
        self._tokens.end_brackets(")")
        self._begun.append(["body", params])
        self.want_tree(LOOSEST)

    def go_on(self):
        """Read what stands behind a tree."""
        kind, text, _ = self._tokens.peek()
        # Operators are ended with what stands behind them, so the tree here can be called, and picked from.
        if kind == SIGN and text == "(":
            self._tokens.begin_brackets("(")
            self._begun.append(["call", self._tree, [], None])
            if self._tokens.next_is((")",)):
                self.end_call()
            else:
                self.begin_arg()
        elif kind == SIGN and text == "$":
            self._tokens.take()
            self.give(("pick", self._tree, self._tokens.take_name(())), CALL_LEVEL)
        elif kind == SIGN and text in LEVELS:
            self.begin_right(text)
        else:
            self.end_loose()
            self.end_part()

    def begin_arg(self):
        """Read what comes ahead of the tree of an argument."""
        name = self._tokens.name_ahead_of("=")
        if name is not None:
            self._tokens.take()
            self._tokens.take()
        self._begun[-1][3] = name
        self.want_tree(LOOSEST)

    def end_call(self):
        """Read the end of the arguments."""
        self._tokens.end_brackets(")")
        _, called, given, _ = self._begun.pop()
        self.give(("call", called, tuple(given)), CALL_LEVEL)

    def begin_right(self, sign):
        """Read a sign between two operands."""
        level = LEVELS[sign]
        while self.is_tighter(level):
            self.end_operand()
        if self._level < least_left(level):
            self._tokens.refuse()
        self._begun.append(["binary", self._tokens.take(), self._tree])
        self.want_tree(level + 1)

    def is_tighter(self, level):
        """Whether the innermost thing begun is an operator that ends ahead of a sign of a level."""
        word = self._begun[-1][0]
        if word == "ahead":
            return AHEAD[self._begun[-1][1]] > level
        return word == "binary" and LEVELS[self._begun[-1][1]] >= level

    def end_operand(self):
        """End the operator that is begun innermost."""
        begun = self._begun.pop()
        tree = ("op", begun[1], self._tree) if begun[0] == "ahead" else ("op", begun[1], begun[2], self._tree)
        self.give(tree, level_of(tree))

    def end_loose(self):
        """End all that has no end of its own behind the tree."""
        while True:
            begun = self._begun[-1]
            if begun[0] in ("ahead", "binary"):
                self.end_operand()
            elif begun[0] == "body":
                self._begun.pop()
                self.give(("fun", tuple(begun[1]), self._tree), LOOSEST)
            elif begun[0] == "parts" and ENDS[begun[1]][len(begun[2])] is None:
                self._begun.pop()
                self.give((begun[1], *begun[2], self._tree), LOOSEST)
            else:
                return

    def end_part(self):
        """Read what ends the tree in the innermost thing that is begun."""
        begun = self._begun[-1]
        if begun[0] in ("program", "block"):
            self.end_statement(begun)
        elif begun[0] == "parts":
            self.end_wordy(begun)
        elif begun[0] == "call":
            self.end_arg(begun)
        elif begun[0] == "default":
            self._begun.pop()
            begun[1].append((begun[2], self._tree))
            if not self.is_last_param(begun[1]):
                self.read_params(begun[1])
        elif begun[0] == "round":
            self._tokens.end_brackets(")")
            self._begun.pop()
            self._level = TIGHTEST
        elif self._tokens.peek()[0] == END:
            self._state = DONE
        else:
            self._tokens.refuse()

    def end_statement(self, begun):
        """Read what ends a statement; what ends all of them is left."""
        if not self._tokens.next_is(PARTING) and not self.is_at_end_of_statements():
            self._tokens.refuse()
        begun[1].append(self._tree if begun[2] is None else ("set", begun[2], self._tree))
        begun[2] = None
        self._state = STATEMENT

    def end_wordy(self, begun):
        """Read what ends a part of a tree that begins with a word."""
        end = ENDS[begun[1]][len(begun[2])]
        if end == ")":
            self._tokens.end_brackets(")")
        else:
            self._tokens.take_sign(end)
        begun[2].append(self._tree)
        if len(begun[2]) < len(ENDS[begun[1]]):
            self.want_tree(LOOSEST)
            return
        self._begun.pop()
        self.give((begun[1], *begun[2]), TIGHTEST)

    def end_arg(self, begun):
        """Read what ends an argument."""
        begun[2].append((begun[3], self._tree))
        if self._tokens.next_is((",",)) and len(begun[2]) < MOST_PARTS:
            self._tokens.take()
            self.begin_arg()
        else:
            self.end_call()


def closing_index(text, start):
    """The index of the bracket that closes one opened ahead of an index; the length if there is none."""
    depth = 0
    for index in range(start, len(text)):
        if text[index] == "(":
            depth += 1
        elif text[index] == ")":
            if depth == 0:
                return index
            depth -= 1
    return len(text)
