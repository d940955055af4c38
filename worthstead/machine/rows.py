"""What a machine does at each row of a code."""

from worthstead.lang.faults import Fault, Limit
from worthstead.lang.values import Late, Written, checked_text, kind_of, operated
from worthstead.lang.writer import quoted
from worthstead.machine.course import ask, call, end_frame, fail, package_function
from worthstead.machine.places import TRY, WITH, Place, nearest_with


def do_row(course):
    """Do, or begin, the next row."""
    frame = course.running()
    row = course.parts[frame.number].rows[frame.at_row]
    action = ACTIONS[row[0]]
    try:
        action(course, row)
    except Fault as e:
        fail(course, e.word, e.note)
    except Limit as e:
        course.finish(("limit", e.word))


def go_to(course, at):
    """Go on at a row of the running block."""
    frame = course.running()
    frame.at_row = at


def go_on(course):
    """Go on at the next row of the running block."""
    go_to(course, course.running().at_row + 1)


def slot_name(course, row):
    """The name of the slot that a row tells."""
    return course.parts[course.running().number].slots[row[1]]


def do_literal(course, row):
    """Put a value that is told in the code."""
    course.push(row[1])


def do_name(course, row):
    """Read a name."""
    read_name(course, row[1])


def do_slot(course, row):
    """Read the name of a slot."""
    read_name(course, slot_name(course, row))


def read_name(course, name):
    """Read a name in the nearest place that has it."""
    place = nearest_with(course.running().home, name)
    if place is None:
        course.push(package_function(name))
    elif name in place.held:
        course.push(place.held[name])
    elif name in place.asks:
        ask(course, name, place.asks[name])
    else:
        course.push(place.data.shown((name,)))


def do_put(course, row):
    """Put the value to a name."""
    put_to_name(course, row[1])


def do_set(course, row):
    """Put the value to the name of a slot."""
    put_to_name(course, slot_name(course, row))


def put_to_name(course, name):
    """Put the value on the stack to a name in the innermost place, and leave it there."""
    frame = course.running()
    frame.home.held[name] = frame.stack[-1]
    go_on(course)


def do_drop(course, row):
    """Take a value off."""
    course.taken(1)
    go_on(course)


def do_statement(course, row):
    """Note which statement begins."""
    course.statement = row[1]
    go_on(course)


def do_operator(course, row):
    """Reckon an operator with its operands."""
    course.push(operated(row[1], course.taken(row[2])))


def do_jump(course, row):
    """Go on at a later row."""
    go_to(course, row[1])


def do_unless(course, row):
    """Go on at a later row unless a condition holds."""
    holds = course.taken(1)[0]
    if kind_of(holds) != "truth":
        raise Fault("truth", "")
    if holds:
        go_on(course)
    else:
        go_to(course, row[1])


def do_function(course, row):
    """Make a function of the present place."""
    course.push(Written(row[1], course.running().home))


def do_late(course, row):
    """Make an argument of the present place."""
    course.push(Late(row[1], course.running().home))


def do_call(course, row):
    """Begin a call."""
    values = course.taken(1 + len(row[1]))
    call(course, values[0], row[1], values[1:])


def do_pick(course, row):
    """Pick a column of a table."""
    table = course.taken(1)[0]
    check_table_value(table)
    if row[1] not in table:
        raise Fault("unknown", row[1])
    course.push(table.shown((row[1],)))


def do_with(course, row):
    """Begin a block in a new place with a table."""
    table = course.taken(1)[0]
    check_table_value(table)
    course.check_depth()
    course.begin(row[1], Place(course.running().home, table), WITH, None)


def check_table_value(value):
    """Raise a fault unless a value is a table."""
    if kind_of(value) != "table":
        raise Fault("kind", "")


def do_try(course, row):
    """Begin what is tried."""
    course.check_depth()
    course.begin(row[1], course.running().home, TRY, row[2])


def do_stop(course, row):
    """Raise the fault that is told by a text."""
    note = course.taken(1)[0]
    if kind_of(note) != "text":
        raise Fault("kind", "")
    raise Fault("stop", note)


def do_text(course, row):
    """Put the text of an argument."""
    name = row[1]
    place = nearest_with(course.running().home, name)
    if place is None or name in place.held or name not in place.asks:
        raise Fault("text", name)
    argument = place.asks[name]
    if argument is None:
        raise Fault("lacking", name)
    text = quoted(argument.worth) if argument.number is None else course.texts[argument.number]
    course.push(checked_text(text))


def do_end(course, row):
    """End the running frame."""
    end_frame(course, course.taken(1)[0])


ACTIONS = {
    "literal": do_literal,
    "name": do_name,
    "slot": do_slot,
    "put": do_put,
    "set": do_set,
    "drop": do_drop,
    "statement": do_statement,
    "operator": do_operator,
    "jump": do_jump,
    "unless": do_unless,
    "function": do_function,
    "late": do_late,
    "call": do_call,
    "pick": do_pick,
    "with": do_with,
    "try": do_try,
    "stop": do_stop,
    "text": do_text,
    "end": do_end,
}
