"""Codes: rows in blocks."""

from worthstead.errors import InvalidCode, InvalidNumber, TooMany
from worthstead.exact.ratios import is_between, is_ratio
from worthstead.formulas.formulas import Formula
from worthstead.lang.trees import ONE_OPERAND, TWO_OPERANDS
from worthstead.names import is_name

MAX_BLOCKS = 2000
MAX_CODE_ROWS = 20000
KINDS = ("program", "body", "late", "with")
# What stands behind the word of each row.
SHAPES = {
    "literal": ("worth",),
    "name": ("name",),
    "slot": ("index",),
    "put": ("name",),
    "set": ("index",),
    "drop": (),
    "statement": ("index",),
    "operator": ("sign", "total"),
    "jump": ("index",),
    "unless": ("index",),
    "function": ("index",),
    "late": ("index",),
    "call": ("names",),
    "pick": ("name",),
    "with": ("index",),
    "try": ("index", "index"),
    "stop": (),
    "text": ("name",),
    "end": (),
}


class Block:
    """A block of a code; it never changes."""

    def __init__(self, kind, params, slots, rows, text=""):
        if not isinstance(kind, str) or kind not in KINDS or not isinstance(text, str):
            raise InvalidCode("a block has no right kind, or no text")
        if not are_params(params) or not isinstance(slots, tuple) or not all([is_name(slot) for slot in slots]):
            raise InvalidCode("a block has no right parameters, or no right slots")
        if not isinstance(rows, tuple) or not all([is_row(row) for row in rows]):
            raise InvalidCode("a block has no right rows")
        self._kind = kind
        self._params = params
        self._slots = slots
        self._rows = rows
        self._text = text

    @property
    def kind(self):
        """The word for where the block is from."""
        return self._kind

    @property
    def params(self):
        """The pairs of the name of a parameter and the index of its default, or None."""
        return self._params

    @property
    def slots(self):
        """The known names of the place in which the block runs."""
        return self._slots

    @property
    def rows(self):
        """The rows."""
        return self._rows

    @property
    def text(self):
        """The written text of a function, or of what is reckoned late."""
        return self._text

    def __eq__(self, other):
        return (
            isinstance(other, Block) and self._kind == other._kind and self._params == other._params
            and self._slots == other._slots and self._rows == other._rows and self._text == other._text
        )


class Code:
    """A row of blocks; it never changes."""

    def __init__(self, blocks):
        if not isinstance(blocks, tuple) or not blocks or not all([isinstance(one, Block) for one in blocks]):
            raise InvalidCode("this is no tuple of one or more blocks")
        if len(blocks) > MAX_BLOCKS:
            raise TooMany(MAX_BLOCKS)
        if row_total(blocks) > MAX_CODE_ROWS:
            raise TooMany(MAX_CODE_ROWS)
        self._blocks = blocks

    @property
    def blocks(self):
        """The tuple of the blocks."""
        return self._blocks

    def __getitem__(self, at):
        if not is_between(at, 0, len(self._blocks) - 1):
            raise InvalidNumber(at)
        return self._blocks[at]

    def __len__(self):
        return len(self._blocks)

    def __iter__(self):
        return iter(self._blocks)

    def __eq__(self, other):
        return isinstance(other, Code) and self._blocks == other._blocks

    def __str__(self):
        return f"code of {len(self._blocks)} blocks, {row_total(self._blocks)} rows"


def row_total(blocks):
    """How many rows some blocks have in all."""
    return sum([len(block.rows) for block in blocks])


def are_params(value):
    """Whether the value is a tuple of pairs of a name and the index of a block, or None."""
    if not isinstance(value, tuple):
        return False
    return all([isinstance(pair, tuple) and len(pair) == 2 and is_param(pair) for pair in value])


def is_param(pair):
    """Whether a pair is a name and the index of a block, or None."""
    return is_name(pair[0]) and (pair[1] is None or is_index(pair[1]))


def is_index(value):
    """Whether the value is an integer that can stand for an index in a row."""
    return is_between(value, 0, MAX_CODE_ROWS)


def is_row(value):
    """Whether the value is a row, whatever its indices are."""
    if not isinstance(value, tuple) or not value or not isinstance(value[0], str) or value[0] not in SHAPES:
        return False
    shape = SHAPES[value[0]]
    if len(value) != len(shape) + 1:
        return False
    if value[0] == "operator":
        return is_operator(value[1], value[2])
    return all([is_as_told(word, part) for word, part in zip(shape, value[1:])])


def is_operator(sign, total):
    """Whether there is an operator with this sign and this number of operands."""
    if not is_between(total, 1, 2):
        return False
    return isinstance(sign, str) and sign in (ONE_OPERAND if total == 1 else TWO_OPERANDS)


def is_as_told(word, value):
    """Whether a value is what a word of the shapes wants."""
    if word == "index":
        return is_index(value)
    if word == "name":
        return is_name(value)
    if word == "names":
        return isinstance(value, tuple) and all([name is None or is_name(name) for name in value])
    return value is None or isinstance(value, (bool, str, Formula)) or is_ratio(value)
