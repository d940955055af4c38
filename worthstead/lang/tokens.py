"""The tokens of texts of programs."""

from worthstead.errors import ParseError
from worthstead.exact.ratios import MAX_FIGURES
from worthstead.lang.trees import MOST_STRING, QUOTE
from worthstead.names import DIGITS, LETTERS, is_name

CAPITALS = "ABCDEFGHIJKLMNOPQRSTUVWXYZ"
LONG_SIGNS = ("<-", "<=", "==")
SIGNS = "|&!<+-*/(){},;=$~\n"
NEWLINE = "\n"
# The kinds of tokens. What is wrong can stand nowhere.
WORD = "word"
NUMERAL = "numeral"
STRING = "string"
SIGN = "sign"
END = "end"
WRONG = "wrong"


class Tokens:
    """The tokens of a text, and up to where they were taken."""

    def __init__(self, text):
        self._text = text
        self._at = 0
        # Whether the brackets that are not closed yet are round ones.
        self._rounds = []

    def peek(self):
        """The next token: its kind, its characters, and its spot."""
        return token_at(self._text, self._at, self.is_in_round())

    def is_in_round(self):
        """Whether the innermost bracket is a round one, in which newlines mean nothing."""
        return len(self._rounds) > 0 and self._rounds[-1]

    def next_is(self, texts):
        """Whether the next token is one of some signs or words."""
        kind, text, _ = self.peek()
        return kind in (SIGN, WORD) and text in texts

    def name_ahead_of(self, sign):
        """The name that comes next, if a sign stands behind it; otherwise None."""
        kind, text, spot = self.peek()
        if kind != WORD or not is_name(text):
            return None
        following = token_at(self._text, spot + len(text), self.is_in_round())
        return text if following[:2] == (SIGN, sign) else None

    def take(self):
        """The characters of the next token, behind which reading goes on."""
        _, text, spot = self.peek()
        self._at = spot + len(text)
        return text

    def go_to(self, index):
        """Read on from an index."""
        self._at = index

    def refuse(self):
        """Tell that the next token cannot stand."""
        raise ParseError(self.peek()[2])

    def take_sign(self, sign):
        """Take the one sign or word that can stand."""
        if not self.next_is((sign,)):
            self.refuse()
        return self.take()

    def take_name(self, others):
        """Take a name that is none of some others."""
        kind, text, _ = self.peek()
        if kind != WORD or not is_name(text) or text in others:
            self.refuse()
        return self.take()

    def begin_brackets(self, sign):
        """Take the sign that begins brackets."""
        self.take_sign(sign)
        self._rounds.append(sign == "(")

    def end_brackets(self, sign):
        """Take the sign that ends the innermost brackets."""
        self.take_sign(sign)
        self._rounds.pop()


def token_at(text, start, passes_newlines):
    """The first token from an index on: its kind, its characters, and its spot."""
    blanks = " \n" if passes_newlines else " "
    spot = start
    while spot < len(text) and text[spot] in blanks:
        spot += 1
    if spot == len(text):
        return END, "", spot
    first = text[spot]
    if first == QUOTE:
        return string_at(text, spot)
    if first in DIGITS:
        end = run_end(text, spot, DIGITS)
        return NUMERAL if end - spot <= MAX_FIGURES else WRONG, text[spot:end], spot
    if first in LETTERS or first in CAPITALS:
        return WORD, text[spot:run_end(text, spot, LETTERS + CAPITALS + DIGITS)], spot
    if text[spot:spot + 2] in LONG_SIGNS:
        return SIGN, text[spot:spot + 2], spot
    return SIGN if first in SIGNS else WRONG, first, spot


def run_end(text, start, characters):
    """The index behind the longest run of some characters."""
    end = start
    while end < len(text) and text[end] in characters:
        end += 1
    return end


def string_at(text, spot):
    """The string that begins with the quotation mark at a spot, if it has an end and is not too long."""
    end = text.find(QUOTE, spot + 1)
    inner = text[spot + 1:end]
    # Newlines are no characters of strings.
    if end < 0 or len(inner) > MOST_STRING or NEWLINE in inner:
        return WRONG, QUOTE, spot
    return STRING, text[spot:end + 1], spot
