"""What the parts of a formula's text mean.

Here a term is an integer with a bit for each of its names, so that the join of two terms is their "or".
"""

from worthstead.errors import TooMany
from worthstead.formulas.formulas import MAX_TERMS

CONSTANT = 0


def added(one, other):
    """The terms of the one, then those of the other that it lacks."""
    there = {term: True for term in one}
    return one + [term for term in other if term not in there]


def lessened(one, other):
    """The terms of the one that the other lacks."""
    there = {term: True for term in other}
    return [term for term in one if term not in there]


def crossed(one, other):
    """The joins of each term of the one with each term of the other, as they come about."""
    return list({left | right: True for left in one for right in other})


def nested(one, other):
    """The terms of the one, then those of the other within all names of the one."""
    names = CONSTANT
    for term in one:
        names = names | term
    return added(one, crossed([names], other))


def combined(sign, one, other):
    """What an operator between two parts means."""
    if sign == "+":
        return added(one, other)
    if sign == "-":
        return lessened(one, other)
    if sign == "*":
        return added(added(one, other), crossed(one, other))
    return nested(one, other) if sign == "/" else crossed(one, other)


def powered(part, many):
    """The part to a power from 1 to 9."""
    found = part
    for _ in range(1, many):
        found = checked(added(found, crossed(found, part)))
    return found


def checked(terms):
    """The terms, unless they are too many."""
    if len(terms) > MAX_TERMS:
        raise TooMany(MAX_TERMS)
    return terms


def grown(steps, names):
    """The terms of a product, from its steps: each name and power, and each operator behind its operands."""
    stack = []
    for word, worth in steps:
        if word == "name":
            stack.append([1 << names.index(worth)])
        elif word == "^":
            stack.append(powered(stack.pop(), worth))
        else:
            other = stack.pop()
            one = stack.pop()
            stack.append(checked(combined(word, one, other)))
    return stack[0]


def right_side(summands, names):
    """The terms of a right side, from its summands, each a sign and either a numeral or steps."""
    terms = [CONSTANT]
    for sign, numeral, steps in summands:
        part = grown(steps, names) if steps else [CONSTANT]
        # The numeral 0 takes the constant away, just as less 1 does.
        takes = sign == "-" or numeral == "0"
        terms = checked(lessened(terms, part) if takes else added(terms, part))
    return terms
