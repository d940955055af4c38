"""What ends the reckoning of a program, or of a part of it."""


class Fault(Exception):
    """A fault: a word, and a text that tells more."""

    def __init__(self, word, note):
        self.word = word
        self.note = note


class Limit(Exception):
    """A limit that would be passed, by its word."""

    def __init__(self, word):
        self.word = word
