"""Machines from their texts."""

from worthstead.machine.course import Course
from worthstead.machine.freezing import NONE
from worthstead.machine.places import ASK, CATCH, RECKON, TRY, Argument, Frame, Place
from worthstead.machine.things import text_of_line, value_of_line


class Lines:
    """The lines of a text, and up to where they were taken."""

    def __init__(self, text):
        self._lines = text.split("\n")
        self._at = 0

    def take(self):
        """The next line."""
        self._at += 1
        return self._lines[self._at - 1]

    def take_number(self):
        """The number on the next line."""
        return int(self.take())

    def take_text(self):
        """The text on the next line."""
        return text_of_line(self.take())

    def take_number_or_none(self):
        """The number on the next line, or None."""
        line = self.take()
        return None if line == NONE else int(line)


def thawed_course(parts, text):
    """The course of a machine for some blocks, from its text."""
    lines = Lines(text)
    course = Course(parts)
    course.counted = lines.take_number()
    course.statement = lines.take_number()
    course.ending = taken_ending(lines)
    course.printed = [lines.take_text() for _ in range(lines.take_number())]
    # Places and arguments name one another, so all of them are there ahead of what they have.
    places = [Place(None, None) for _ in range(lines.take_number())]
    arguments = [Argument(None, None, None) for _ in range(lines.take_number())]
    for place in places:
        fill_place(place, lines, places, arguments)
    for argument in arguments:
        fill_argument(argument, lines, places)
    course.top_place = places[0]
    course.frames = [taken_frame(lines, places, arguments) for _ in range(lines.take_number())]
    return course


def taken_ending(lines):
    """How a run ended, or None."""
    parts = [lines.take_text() for _ in range(lines.take_number())]
    if not parts:
        return None
    if parts[0] == "fault":
        parts[3] = int(parts[3])
    return tuple(parts)


def place_at(lines, places):
    """The place that the next line tells, or None."""
    number = lines.take_number_or_none()
    return None if number is None else places[number]


def fill_place(place, lines, places, arguments):
    """Give a place what its lines tell."""
    place.outer = place_at(lines, places)
    table = lines.take()
    place.data = None if table == NONE else value_of_line(table, places)
    for _ in range(lines.take_number()):
        name = lines.take()
        place.held[name] = value_of_line(lines.take(), places)
    for _ in range(lines.take_number()):
        name = lines.take()
        number = lines.take_number_or_none()
        place.asks[name] = None if number is None else arguments[number]


def fill_argument(argument, lines, places):
    """Give an argument what its lines tell."""
    argument.number = lines.take_number_or_none()
    argument.home = place_at(lines, places)
    argument.state = lines.take()
    argument.worth = value_of_line(lines.take(), places)


def taken_values(lines, places):
    """The values that the next lines tell."""
    return [value_of_line(lines.take(), places) for _ in range(lines.take_number())]


def taken_frame(lines, places, arguments):
    """The frame that the next lines tell."""
    number = lines.take_number()
    at_row = lines.take_number()
    home = place_at(lines, places)
    frame = Frame(number, home, lines.take(), None)
    frame.at_row = at_row
    frame.stack = taken_values(lines, places)
    if frame.role == ASK:
        frame.told = arguments[lines.take_number()]
    elif frame.role == TRY:
        frame.told = lines.take_number()
    elif frame.role == CATCH:
        word = lines.take_text()
        frame.told = (word, lines.take_text())
    elif frame.role == RECKON:
        called = lines.take()
        names = [lines.take() for _ in range(lines.take_number())]
        lates = taken_values(lines, places)
        names = tuple([None if name == NONE else name for name in names])
        frame.told = (called, names, lates, taken_values(lines, places))
    return frame
