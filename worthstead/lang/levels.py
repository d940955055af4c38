"""The levels of trees: which of them can stand where without brackets."""

LOOSEST = 0
EQUAL_LEVEL = 4
CALL_LEVEL = 8
TIGHTEST = 9
# Of the signs between two operands.
LEVELS = {"|": 1, "&": 2, "==": 4, "<": 4, "<=": 4, "+": 5, "-": 5, "*": 6, "/": 6}
# Of the signs ahead of one operand.
AHEAD = {"!": 3, "-": 7}
LOOSE_WORDS = ("fun", "if", "with")


def level_of(tree):
    """The level of a tree."""
    word = tree[0]
    if word in LOOSE_WORDS:
        return LOOSEST
    if word == "op":
        return AHEAD[tree[1]] if len(tree) == 3 else LEVELS[tree[1]]
    return CALL_LEVEL if word in ("call", "pick") else TIGHTEST


def least_left(level):
    """The least level of what stands ahead of a sign of a level."""
    return level + 1 if level == EQUAL_LEVEL else level
