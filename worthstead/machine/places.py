"""What a machine has while it runs: places, arguments, and frames."""

# The states of arguments.
UNASKED = "unasked"
ASKED = "asked"
KNOWN = "known"
# What frames run for.
PROGRAM = "program"
CALL = "call"
ASK = "ask"
WITH = "with"
TRY = "try"
CATCH = "catch"
RECKON = "reckon"
# Those of them that are open.
OPEN_ROLES = ("call", "ask", "with", "try")


class Place:
    """Names with what was put to them, the arguments of parameters, perhaps a table, and the place around."""

    def __init__(self, outer, data):
        self.outer = outer
        self.data = data
        self.held = {}
        self.asks = {}


class Argument:
    """What a parameter stands for: a block and the place for it, or a text without a block."""

    def __init__(self, number, home, worth):
        self.number = number
        self.home = home
        self.worth = worth
        self.state = UNASKED


class Frame:
    """A block that runs in a place, with its next row and its stack, what it runs for, and what this needs."""

    def __init__(self, number, home, role, told):
        self.number = number
        self.at_row = 0
        self.home = home
        self.stack = []
        self.role = role
        self.told = told


def has_name(place, name):
    """Whether a place itself has a name."""
    if name in place.held or name in place.asks:
        return True
    return place.data is not None and name in place.data


def nearest_with(place, name):
    """The nearest place that has a name, or None."""
    while place is not None and not has_name(place, name):
        place = place.outer
    return place
