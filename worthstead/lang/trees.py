"""Trees and programs."""

from worthstead.errors import InvalidFormula, InvalidTree, ParseError, TooMany
from worthstead.exact.ratios import is_plain_int
from worthstead.formulas.reader import read_formula, write_formula
from worthstead.names import is_name

MOST_PARTS = 8
MOST_TREES = 2000
MOST_DEEP = 30
MOST_STRING = 400
QUOTE = '"'
ONE_OPERAND = ("!", "-")
TWO_OPERANDS = ("|", "&", "==", "<", "<=", "+", "-", "*", "/")
# Behind the word of each of these there are so many trees, and nothing else.
PLAIN_WORDS = {"if": 3, "with": 2, "try": 2, "stop": 1}


def is_program(value):
    """Whether the value is a program."""
    return isinstance(value, tuple) and are_within_bounds(list(value), True)


def is_expression(value):
    """Whether the value is a tree within the bounds of programs."""
    return are_within_bounds([value], False)


def check_program(value):
    """Raise an error unless the value is a program."""
    if not is_program(value):
        raise InvalidTree("this is no program")


def check_tree(value):
    """Raise an error unless the value is a tree within the bounds."""
    if not is_expression(value):
        raise InvalidTree("this is no tree")


def are_within_bounds(values, are_statements):
    """Whether all values are statements, or trees, not too many and not too deep with all that is in them."""
    # Those that are still to be looked at, so that no depth of values leads to as deep calls.
    waiting = [(value, 1, are_statements) for value in values]
    total = 0
    while waiting:
        value, depth, is_statement = waiting.pop()
        total += 1
        if total > MOST_TREES or depth > MOST_DEEP:
            return False
        if not (is_statement and is_set(value)) and not is_node(value):
            return False
        for part, is_inner in parts_of_node(value):
            waiting.append((part, depth + 1, is_inner))
    return True


def is_set(value):
    """Whether the value is a statement that puts something to a name, whatever this is."""
    return is_tuple_of(value, "set", 3) and is_name(value[1])


def is_tuple_of(value, word, many):
    """Whether the value is a tuple of so many members that begins with a word."""
    return isinstance(value, tuple) and len(value) == many and isinstance(value[0], str) and value[0] == word


def is_node(value):
    """Whether the value is a tree, whatever the trees and statements in it are."""
    if not isinstance(value, tuple) or not value or not isinstance(value[0], str):
        return False
    word = value[0]
    if word in PLAIN_WORDS:
        return len(value) == PLAIN_WORDS[word] + 1
    if word == "op":
        return is_operator(value)
    if word == "gone":
        return len(value) == 1
    if word == "fun" or word == "pick" or word == "call":
        return len(value) == 3 and is_three(value)
    return len(value) == 2 and is_leaf(word, value[1])


def is_operator(value):
    """Whether a tuple is an operator with as many operands as it takes."""
    if not 3 <= len(value) <= 4 or not isinstance(value[1], str):
        return False
    return value[1] in (ONE_OPERAND if len(value) == 3 else TWO_OPERANDS)


def is_three(value):
    """Whether a tuple of three members is a function, a call, or what picks a column."""
    if value[0] == "fun":
        return are_params(value[1])
    if value[0] == "pick":
        return is_name(value[2])
    return are_args(value[2])


def is_leaf(word, value):
    """Whether the value is what such a word wants alone behind it."""
    if word == "number":
        return is_plain_int(value) and value >= 0
    if word == "string":
        return is_string(value)
    if word == "truth":
        return isinstance(value, bool)
    if word == "formula":
        return is_formula_text(value)
    if word == "block":
        return isinstance(value, tuple)
    return word in ("name", "text") and is_name(value)


def is_string(value):
    """Whether the value is the characters of a string of a program."""
    if not isinstance(value, str) or len(value) > MOST_STRING:
        return False
    return all([" " <= character <= "~" and character != QUOTE for character in value])


def is_formula_text(value):
    """Whether the value is the text of a formula."""
    try:
        return write_formula(read_formula(value)) == value
    except InvalidFormula:
        return False
    except ParseError:
        return False
    except TooMany:
        return False


def are_params(value):
    """Whether the value is the parameters of a function, whatever their defaults are."""
    if not are_pairs(value) or not all([is_name(name) for name, _ in value]):
        return False
    return len(set([name for name, _ in value])) == len(value)


def are_args(value):
    """Whether the value is the arguments of a call, whatever their trees are."""
    return are_pairs(value) and all([name is None or is_name(name) for name, _ in value])


def are_pairs(value):
    """Whether the value is a tuple of not too many pairs."""
    if not isinstance(value, tuple) or len(value) > MOST_PARTS:
        return False
    return all([isinstance(pair, tuple) and len(pair) == 2 for pair in value])


def parts_of_node(node):
    """The trees and statements in a node, in the order of the text, each with whether it is a statement."""
    word = node[0]
    if word == "block":
        return [(part, True) for part in node[1]]
    return [(part, False) for part in trees_in(node)]


def trees_in(node):
    """The trees directly in a statement or in a tree other than a block, in the order of the text."""
    word = node[0]
    if word == "op" or word == "set":
        return list(node[2:])
    if word in PLAIN_WORDS:
        return list(node[1:])
    if word == "fun":
        return [default for _, default in node[1] if default is not None] + [node[2]]
    if word == "call":
        return [node[1]] + [tree for _, tree in node[2]]
    return [node[1]] if word == "pick" else []
