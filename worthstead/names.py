"""Names, and the short words that levels are."""

MOST_CHARACTERS = 8
LETTERS = "abcdefghijklmnopqrstuvwxyz"
DIGITS = "0123456789"
RESERVED = ("else", "fun", "if", "in", "stop", "text", "try", "with")


def is_word_character(character):
    """Whether it is one of the characters of names and levels."""
    return character in LETTERS or character in DIGITS


def is_short_word(value):
    """Whether the value is a string of one to eight letters and digits."""
    if not isinstance(value, str) or not 1 <= len(value) <= MOST_CHARACTERS:
        return False
    return all([is_word_character(character) for character in value])


def is_name(value):
    """Whether the value is a name."""
    return is_short_word(value) and value[0] in LETTERS and value not in RESERVED


def are_names(value):
    """Whether the value is a tuple of different names."""
    if not isinstance(value, tuple) or not all([is_name(one) for one in value]):
        return False
    return len(set(value)) == len(value)


def are_ascending_names(value):
    """Whether the value is an ascending tuple of different names."""
    return are_names(value) and list(value) == sorted(value)
