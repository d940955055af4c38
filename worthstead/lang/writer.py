"""The texts of programs and trees."""

from worthstead.lang.levels import AHEAD, CALL_LEVEL, LEVELS, LOOSEST, least_left, level_of
from worthstead.lang.trees import QUOTE, check_program, check_tree


def write_program(program):
    """The text of a program."""
    check_program(program)
    return "\n".join([statement_text(statement) for statement in program])


def write_expression(tree):
    """The text of a tree."""
    check_tree(tree)
    return text_of_tree(tree)


def statement_text(statement):
    """The text of a statement."""
    if statement[0] == "set":
        return f"{statement[1]} <- {text_of_tree(statement[2])}"
    return text_of_tree(statement)


def text_at(tree, least):
    """The text of a tree where one of at least this level can stand."""
    text = text_of_tree(tree)
    return text if level_of(tree) >= least else f"({text})"


def text_of_tree(tree):
    """The text of a tree, without brackets around it."""
    word = tree[0]
    if word == "op":
        return operator_text(tree)
    if word == "fun":
        params = [param_text(name, default) for name, default in tree[1]]
        return f"fun({', '.join(params)}) {text_of_tree(tree[2])}"
    if word == "call":
        given = [param_text(name, arg) for name, arg in tree[2]]
        return f"{text_at(tree[1], CALL_LEVEL)}({', '.join(given)})"
    if word == "pick":
        return f"{text_at(tree[1], CALL_LEVEL)}${tree[2]}"
    if word in ("if", "with", "try", "stop"):
        return wordy_text(tree)
    return leaf_text(tree)


def operator_text(tree):
    """The text of an operator with its operands."""
    sign = tree[1]
    if len(tree) == 3:
        return f"{sign}{text_at(tree[2], AHEAD[sign])}"
    level = LEVELS[sign]
    return f"{text_at(tree[2], least_left(level))} {sign} {text_at(tree[3], level + 1)}"


def param_text(name, tree):
    """The text of a parameter, which can lack the tree, or of an argument, which can lack the name."""
    if tree is None:
        return name
    return text_of_tree(tree) if name is None else f"{name} = {text_of_tree(tree)}"


def wordy_text(tree):
    """The text of a tree that begins with a word and has nothing but trees behind it."""
    texts = [text_at(part, LOOSEST) for part in tree[1:]]
    if tree[0] == "if":
        return f"if ({texts[0]}) {texts[1]} else {texts[2]}"
    if tree[0] == "with":
        return f"with ({texts[0]}) {texts[1]}"
    return f"{tree[0]}({', '.join(texts)})"


def leaf_text(tree):
    """The text of a tree that has no other trees but those of statements."""
    word = tree[0]
    if word == "gone":
        return "GONE"
    worth = tree[1]
    if word == "truth":
        return "TRUE" if worth else "FALSE"
    if word == "string":
        return quoted(worth)
    if word == "formula":
        return f"({worth})" if "~" in worth else f"(~ {worth})"
    if word == "block":
        statements = [statement_text(statement) for statement in worth]
        return "{" + (f" {'; '.join(statements)} " if statements else "") + "}"
    return f"text({worth})" if word == "text" else str(worth)


def quoted(string):
    """The text of a string."""
    return f"{QUOTE}{string}{QUOTE}"
