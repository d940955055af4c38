"""Formulas and their texts."""

from worthstead.errors import InvalidFormula, ParseError, TooMany
from worthstead.formulas.formulas import MAX_NAMES, Formula, check_formula
from worthstead.formulas.growing import right_side
from worthstead.names import is_name, is_word_character

MOST_LONG = 20000
MOST_DEEP = 20
POWERS = ("1", "2", "3", "4", "5", "6", "7", "8", "9")
END = ""


def read_formula(text):
    """The formula of a text."""
    if not is_readable(text):
        raise InvalidFormula("this is no text of a formula")
    response, names, summands = Reader(tokens_of(text)).read_whole()
    if response in names:
        raise InvalidFormula("the response stands on the right side, too")
    if len(names) > MAX_NAMES:
        raise TooMany(MAX_NAMES)
    terms = right_side(summands, names)
    return Formula(tuple([term_of(term, names) for term in terms]), response=response)


def write_formula(formula):
    """The text of a formula."""
    check_formula(formula)
    return str(formula)


def is_readable(value):
    """Whether the value is a string that is not too long, of printable characters."""
    if not isinstance(value, str) or len(value) > MOST_LONG:
        return False
    return all([" " <= character <= "~" for character in value])


def term_of(bits, names):
    """The term with the names of the bits."""
    return tuple([name for at, name in enumerate(names) if bits >> at & 1])


def tokens_of(text):
    """The tokens with their spots, and an empty one at the end; what begins no token is one that never stands."""
    tokens = []
    start = 0
    while start < len(text):
        end = start + 1
        if is_word_character(text[start]):
            while end < len(text) and is_word_character(text[end]):
                end += 1
        if text[start] != " ":
            tokens.append((text[start:end], start))
        start = end
    return tokens + [(END, len(text))]


class Reader:
    """Tokens on the way of being read, and what was read of them."""

    def __init__(self, tokens):
        self._tokens = tokens
        self._at = 0
        self._depth = 0
        self._used = {}
        self._steps = []

    def next_is(self, words):
        """Whether the next token is one of these."""
        return self._tokens[self._at][0] in words

    def taken(self):
        """The next token, behind which reading goes on."""
        self._at += 1
        return self._tokens[self._at - 1][0]

    def refuse(self):
        """Tell that the next token cannot stand."""
        raise ParseError(self._tokens[self._at][1])

    def read_whole(self):
        """The response, the ascending names of the right side, and its summands."""
        response = self.read_response()
        summands = [self.read_summand("+", ("0", "1"))]
        while self.next_is(("+", "-")):
            sign = self.taken()
            summands.append(self.read_summand(sign, ("0", "1") if sign == "+" else ("1",)))
        if not self.next_is((END,)):
            self.refuse()
        return response, sorted(list(self._used)), summands

    def read_response(self):
        """The response, or None if none is told."""
        first = self._tokens[0][0]
        if not is_name(first) or self._tokens[1][0] != "~":
            return None
        self._at = 2
        return first

    def read_summand(self, sign, numerals):
        """What stands behind a sign: the sign, and one of the numerals or the steps of a product."""
        if self.next_is(numerals):
            return sign, self.taken(), []
        self._steps = []
        self.read_product()
        return sign, None, self._steps

    def read_sum(self):
        """Read what stands in parentheses."""
        self.read_product()
        while self.next_is(("+", "-")):
            sign = self.taken()
            self.read_product()
            self._steps.append((sign, None))

    def read_product(self):
        """Read crosses with stars or strokes between them."""
        self.read_cross()
        while self.next_is(("*", "/")):
            sign = self.taken()
            self.read_cross()
            self._steps.append((sign, None))

    def read_cross(self):
        """Read powers with colons between them."""
        self.read_power()
        while self.next_is((":", "in")):
            self.taken()
            self.read_power()
            self._steps.append((":", None))

    def read_power(self):
        """Read a part, perhaps with a power."""
        self.read_part()
        if self.next_is(("^",)):
            self.taken()
            if not self.next_is(POWERS):
                self.refuse()
            self._steps.append(("^", int(self.taken())))

    def read_part(self):
        """Read a name, or a sum in parentheses."""
        if is_name(self._tokens[self._at][0]):
            name = self.taken()
            self._used[name] = True
            self._steps.append(("name", name))
            return
        if not self.next_is(("(",)) or self._depth == MOST_DEEP:
            self.refuse()
        self.taken()
        self._depth += 1
        self.read_sum()
        if not self.next_is((")",)):
            self.refuse()
        self.taken()
        self._depth -= 1
