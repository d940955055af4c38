"""Which codes are sound."""

from worthstead.code.blocks import Code
from worthstead.errors import InvalidCode
from worthstead.lang.trees import MOST_PARTS

# How many values each row takes, but for operators and calls.
TAKEN = {
    "literal": 0, "name": 0, "slot": 0, "put": 1, "set": 1, "drop": 1, "statement": 0, "jump": 0, "unless": 1,
    "function": 0, "late": 0, "pick": 1, "with": 1, "try": 0, "stop": 1, "text": 0, "end": 1,
}
# These put no value.
PUTTING_NONE = ("drop", "statement", "jump", "unless", "stop", "end")
LAST_WORDS = ("stop", "end")
# The kinds of the blocks that rows name.
NAMED = {"function": ("body",), "late": ("late",), "with": ("with",), "try": ("late", "late")}


def is_sound(value):
    """Whether the value is a sound code."""
    if not isinstance(value, Code) or value[0].kind != "program" or not are_named_once(value):
        return False
    return all([is_sound_block(block, number) for number, block in enumerate(value.blocks)])


def depths(code):
    """For each block of a code the depths of its rows, None for those that cannot be come to."""
    check_sound(code)
    return tuple([tuple(depths_of(block.rows)) for block in code])


def check_sound(value):
    """Raise an error unless the value is a sound code."""
    if not is_sound(value):
        raise InvalidCode("this is no sound code")


def taken_by(row):
    """How many values a row takes."""
    if row[0] == "operator":
        return row[2]
    return 1 + len(row[1]) if row[0] == "call" else TAKEN[row[0]]


def named_by(block):
    """The indices of the blocks that a block names, each with the kind that is wanted there."""
    found = [(default, "late") for _, default in block.params if default is not None]
    for row in block.rows:
        if row[0] in NAMED:
            found = found + [(index, kind) for index, kind in zip(row[1:], NAMED[row[0]])]
    return found


def are_named_once(code):
    """Whether each block but the first is named just once, where one of its kind is wanted, by a block ahead."""
    named = {}
    for number, block in enumerate(code.blocks):
        for index, kind in named_by(block):
            if not number < index < len(code) or index in named or code[index].kind != kind:
                return False
            if kind == "late" and code[index].slots != block.slots:
                return False
            named[index] = True
    return len(named) == len(code) - 1


def is_sound_block(block, number):
    """Whether a block by itself is one of a sound code, where it has this number."""
    if len(set(block.slots)) != len(block.slots) or (block.kind == "with" and block.slots):
        return False
    if not are_sound_params(block) or not are_statements_right(block, number):
        return False
    return are_indices_right(block) and depths_of(block.rows) is not None


def are_sound_params(block):
    """Whether the parameters of a block are those of a body, and its slots begin with them; others have none."""
    if block.kind != "body":
        return not block.params
    names = tuple([name for name, _ in block.params])
    return len(names) <= MOST_PARTS and block.slots[:len(names)] == names


def are_statements_right(block, number):
    """Whether statements are told in the first block alone, one after the other."""
    told = [row[1] for row in block.rows if row[0] == "statement"]
    return told == (list(range(len(told))) if number == 0 else [])


def are_indices_right(block):
    """Whether the slots that rows of a block tell are there, and jumps lead to later rows."""
    for at, row in enumerate(block.rows):
        if row[0] in ("slot", "set") and row[1] >= len(block.slots):
            return False
        if row[0] in ("jump", "unless") and not at < row[1] < len(block.rows):
            return False
    return True


def followers(row, at):
    """The rows that can come next behind a row."""
    if row[0] in LAST_WORDS:
        return []
    if row[0] == "jump":
        return [row[1]]
    return [at + 1, row[1]] if row[0] == "unless" else [at + 1]


def depths_of(rows):
    """The depths of the rows of a block, or None unless there is just one that does for each."""
    if not rows or rows[-1][0] not in LAST_WORDS:
        return None
    found = [None] * len(rows)
    found[0] = 0
    # Jumps lead to later rows alone, so each depth is known where its row comes.
    for at, row in enumerate(rows):
        depth = found[at]
        if depth is not None:
            if depth < taken_by(row) or (row[0] == "end" and depth != 1):
                return None
            left = depth - taken_by(row) + (0 if row[0] in PUTTING_NONE else 1)
            for after in followers(row, at):
                if found[after] is not None and found[after] != left:
                    return None
                found[after] = left
    return found
