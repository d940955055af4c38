"""The course of a machine: all that it is at a row, and what the ends of frames and faults make of it."""

from worthstead.lang.faults import Fault, Limit
from worthstead.lang.package import is_package_name, performed, prepared
from worthstead.lang.values import Late, Packaged, Written, checked_text, text_of_value
from worthstead.machine.places import (
    ASK,
    ASKED,
    CALL,
    CATCH,
    KNOWN,
    OPEN_ROLES,
    PROGRAM,
    RECKON,
    TRY,
    UNASKED,
    Argument,
    Frame,
    Place,
)

MOST_STEPS = 5000
MOST_OPEN = 150
MOST_LINES = 200
PACKAGE_STEPS = 20


class Course:
    """The frames of a machine, the last one running, and what was counted and printed."""

    def __init__(self, parts):
        self.parts = parts
        self.texts = [part.text for part in parts]
        self.top_place = Place(None, None)
        self.frames = [Frame(0, self.top_place, PROGRAM, None)]
        self.counted = 0
        self.printed = []
        self.statement = 0
        self.ending = None

    def running(self):
        """The frame whose rows are done."""
        return self.frames[-1]

    def finish(self, ending):
        """End the run."""
        self.ending = ending
        self.frames = []

    def check_depth(self):
        """Stop the run if one more open thing is too many."""
        # The first frame is not open, so that fewer frames need not be counted.
        if len(self.frames) > MOST_OPEN and open_frames(self.frames) >= MOST_OPEN:
            raise Limit("depth")

    def add_steps(self, steps):
        """Count some steps, or stop the run if they are too many."""
        if self.counted + steps > MOST_STEPS:
            raise Limit("steps")
        self.counted = self.counted + steps

    def push(self, value):
        """Put the value of the present row on the stack; the row is done."""
        frame = self.frames[-1]
        frame.stack.append(value)
        frame.at_row = frame.at_row + 1

    def taken(self, many):
        """The values that the present row takes off the stack."""
        frame = self.frames[-1]
        start = len(frame.stack) - many
        values = frame.stack[start:]
        frame.stack = frame.stack[:start]
        return values

    def begin(self, number, home, role, told):
        """Begin a frame."""
        self.frames.append(Frame(number, home, role, told))


def open_frames(frames):
    """How many of some frames are open."""
    return len([frame for frame in frames if frame.role in OPEN_ROLES])


def ask(course, name, argument):
    """Read a parameter."""
    if argument is None:
        raise Fault("lacking", name)
    if argument.state == ASKED:
        raise Fault("circle", name)
    if argument.state == KNOWN:
        course.push(argument.worth)
        return
    course.check_depth()
    if argument.number is None:
        # A text is reckoned as soon as it is asked.
        argument.state = KNOWN
        course.push(argument.worth)
        return
    argument.state = ASKED
    course.begin(argument.number, argument.home, ASK, argument)


def call(course, function, names, lates):
    """Call a function with arguments that are reckoned later; a name or None is told for each."""
    if not isinstance(function, (Written, Packaged)) or not all([isinstance(late, Late) for late in lates]):
        raise Fault("kind", "")
    if isinstance(function, Written):
        call_written(course, function, names, [Argument(late.number, late.home, None) for late in lates])
    else:
        reckon(course, function.called, names, lates, [])


def call_written(course, function, names, arguments):
    """Call a written function."""
    params = course.parts[function.number].params
    told = matched([name for name, _ in params], names)
    course.add_steps(1)
    course.check_depth()
    home = Place(function.home, None)
    for name, default in params:
        if name in told:
            home.asks[name] = arguments[told[name]]
        else:
            home.asks[name] = None if default is None else Argument(default, home, None)
    course.begin(function.number, home, CALL, None)


def matched(params, names):
    """The dict from the parameters to the indices of their arguments."""
    told = {}
    for index, name in enumerate(names):
        if name is not None:
            if name in told:
                raise Fault("twice", name)
            told[name] = index
    for name in names:
        if name is not None and name not in params:
            raise Fault("unknown", name)
    left = [name for name in params if name not in told]
    others = [index for index, name in enumerate(names) if name is None]
    if len(others) > len(left):
        raise Fault("many", "")
    for name, index in zip(left, others):
        told[name] = index
    return told


def reckon(course, called, names, lates, values):
    """Reckon the next argument of a package function, or call it with all of them."""
    if lates:
        course.begin(lates[0].number, lates[0].home, RECKON, (called, names, lates[1:], values))
    else:
        course.push(packaged_value(course, called, names, values))


def packaged_value(course, called, names, values):
    """The value of a package function with these arguments."""
    ready = prepared(called, names, values)
    course.add_steps(PACKAGE_STEPS)
    if called not in ("show", "print"):
        return performed(called, ready)
    text = checked_text(text_of_value(ready[0], course.texts))
    if called == "print":
        if len(course.printed) == MOST_LINES:
            raise Limit("lines")
        course.printed.append(text)
    return text


def end_frame(course, value):
    """End the running frame with its value."""
    frame = course.frames.pop()
    if frame.role == PROGRAM:
        course.finish(("done", text_of_value(value, course.texts)))
    elif frame.role == ASK:
        argument = frame.told
        argument.state = KNOWN
        argument.worth = value
        course.push(value)
    elif frame.role == RECKON:
        called, names, lates, values = frame.told
        reckon(course, called, names, lates, values + [value])
    elif frame.role == CATCH:
        catch(course, value, list(frame.told))
    else:
        course.push(value)


def catch(course, function, texts):
    """Call the function of a try with the word and the text of a fault."""
    if isinstance(function, Written):
        call_written(course, function, (None, None), [Argument(None, None, text) for text in texts])
    elif isinstance(function, Packaged):
        reckon(course, function.called, (None, None), [], texts)
    else:
        raise Fault("kind", "")


def fail(course, word, note):
    """End all that a fault leaves, up to the nearest try."""
    while course.frames:
        frame = course.frames.pop()
        if frame.role == ASK:
            argument = frame.told
            argument.state = UNASKED
        if frame.role == TRY:
            course.begin(frame.told, frame.home, CATCH, (word, note))
            return
    course.finish(("fault", word, note, course.statement))


def package_function(name):
    """The package function with a name; a fault if there is none."""
    if not is_package_name(name):
        raise Fault("unknown", name)
    return Packaged(name)
