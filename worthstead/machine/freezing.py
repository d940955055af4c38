"""The texts of machines.

A text has a line for each thing. Places and arguments are numbered as they are come to from the frames, so that each
of them is told once, however often it is named.
"""

from worthstead.lang.values import Late, Written
from worthstead.machine.places import ASK, CATCH, RECKON, TRY
from worthstead.machine.things import line_of, value_line

NONE = "-"


class Numbering:
    """The places and arguments that can be come to, with their numbers."""

    def __init__(self, course):
        self.places = [course.top_place]
        self.place_numbers = {course.top_place: 0}
        self.arguments = []
        self.argument_numbers = {}
        for frame in course.frames:
            self.note_frame(frame)
        done = 0
        others_done = 0
        # What is come to leads to more of both.
        while done < len(self.places) or others_done < len(self.arguments):
            if done < len(self.places):
                self.note_parts(self.places[done])
                done += 1
            else:
                argument = self.arguments[others_done]
                self.note_place(argument.home)
                self.note_value(argument.worth)
                others_done += 1

    def note_place(self, place):
        """Number a place, unless it is None or has a number."""
        if place is not None and place not in self.place_numbers:
            self.place_numbers[place] = len(self.places)
            self.places.append(place)

    def note_argument(self, argument):
        """Number an argument, unless it is None or has a number."""
        if argument is not None and argument not in self.argument_numbers:
            self.argument_numbers[argument] = len(self.arguments)
            self.arguments.append(argument)

    def note_value(self, value):
        """Number the place of a value that has one."""
        if isinstance(value, (Written, Late)):
            self.note_place(value.home)

    def note_parts(self, place):
        """Number what a place leads to."""
        self.note_place(place.outer)
        for name in place.held:
            self.note_value(place.held[name])
        for name in place.asks:
            self.note_argument(place.asks[name])

    def note_frame(self, frame):
        """Number what a frame leads to."""
        self.note_place(frame.home)
        for value in frame.stack:
            self.note_value(value)
        if frame.role == ASK:
            self.note_argument(frame.told)
        if frame.role == RECKON:
            _, _, lates, values = frame.told
            for value in list(lates) + values:
                self.note_value(value)


def frozen_text(course):
    """The text of a course."""
    numbering = Numbering(course)
    lines = [str(course.counted), str(course.statement), *ending_lines(course.ending), str(len(course.printed))]
    lines.extend([line_of(text) for text in course.printed])
    lines.extend([str(len(numbering.places)), str(len(numbering.arguments))])
    for place in numbering.places:
        lines.extend(place_lines(place, numbering))
    for argument in numbering.arguments:
        lines.extend(argument_lines(argument, numbering))
    lines.append(str(len(course.frames)))
    for frame in course.frames:
        lines.extend(frame_lines(frame, numbering))
    return "\n".join(lines)


def ending_lines(ending):
    """The lines of how a run ended, or that it did not."""
    if ending is None:
        return ["0"]
    # The index of a statement is the one member that is no string.
    return [str(len(ending)), *[line_of(str(part)) for part in ending]]


def place_number(place, numbering):
    """The number of a place, as a text."""
    return NONE if place is None else str(numbering.place_numbers[place])


def value_text(value, numbering):
    """The line of a value."""
    return value_line(value, numbering.place_numbers)


def place_lines(place, numbering):
    """The lines of a place."""
    lines = [place_number(place.outer, numbering)]
    lines.append(NONE if place.data is None else value_text(place.data, numbering))
    lines.append(str(len(place.held)))
    for name in place.held:
        lines.extend([name, value_text(place.held[name], numbering)])
    lines.append(str(len(place.asks)))
    for name in place.asks:
        argument = place.asks[name]
        lines.extend([name, NONE if argument is None else str(numbering.argument_numbers[argument])])
    return lines


def argument_lines(argument, numbering):
    """The lines of an argument."""
    number = NONE if argument.number is None else str(argument.number)
    return [number, place_number(argument.home, numbering), argument.state, value_text(argument.worth, numbering)]


def frame_lines(frame, numbering):
    """The lines of a frame."""
    lines = [str(frame.number), str(frame.at_row), place_number(frame.home, numbering), frame.role]
    lines = lines + several_lines(frame.stack, numbering)
    if frame.role == ASK:
        return lines + [str(numbering.argument_numbers[frame.told])]
    if frame.role == TRY:
        return lines + [str(frame.told)]
    if frame.role == CATCH:
        return lines + [line_of(text) for text in frame.told]
    if frame.role == RECKON:
        called, names, lates, values = frame.told
        lines = lines + [called, str(len(names)), *[NONE if name is None else name for name in names]]
        return lines + several_lines(lates, numbering) + several_lines(values, numbering)
    return lines


def several_lines(values, numbering):
    """The lines of several values, and ahead of them their number."""
    return [str(len(values)), *[value_text(value, numbering) for value in values]]
