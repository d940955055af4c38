"""The machine that does a code row by row."""

from worthstead.code.judge import check_sound
from worthstead.errors import InvalidNumber, ParseError, UnknownName
from worthstead.exact.ratios import is_plain_int
from worthstead.lang.values import text_of_value
from worthstead.machine.course import Course, open_frames
from worthstead.machine.freezing import frozen_text
from worthstead.machine.rows import do_row
from worthstead.machine.thawing import thawed_course

MOST_ROWS = 1000000


class Machine:
    """A machine with a sound code, ahead of one of its rows or behind the end."""

    def __init__(self, code):
        check_sound(code)
        self._code = code
        self._course = Course(code.blocks)

    @property
    def code(self):
        """The code."""
        return self._code

    @property
    def end(self):
        """How the run ended, or None."""
        return self._course.ending

    @property
    def lines(self):
        """The tuple of the lines that were printed."""
        return tuple(self._course.printed)

    @property
    def steps(self):
        """How many steps were counted."""
        return self._course.counted

    @property
    def names(self):
        """The ascending tuple of the names of the top place."""
        return tuple(sorted(list(self._course.top_place.held)))

    @property
    def place(self):
        """The block and the row of the next row, or None behind the end."""
        if not self._course.frames:
            return None
        frame = self._course.frames[-1]
        return frame.number, frame.at_row

    @property
    def open_total(self):
        """How many things are open."""
        return open_frames(self._course.frames)

    @classmethod
    def thawed(cls, code, text):
        """The machine with a code and the text of what it was."""
        check_sound(code)
        if not isinstance(text, str):
            raise ParseError(None)
        made = cls(code)
        made._course = thawed_course(code.blocks, text)
        return made

    def step(self):
        """Do or begin the next row, and tell whether the run goes on."""
        if self._course.ending is None:
            do_row(self._course)
        return self._course.ending is None

    def run_on(self, *, most=MOST_ROWS):
        """Do rows until the end, at most so many, and tell how many."""
        if not is_plain_int(most) or most < 0:
            raise InvalidNumber(most)
        done = 0
        while done < most and self._course.ending is None:
            do_row(self._course)
            done += 1
        return done

    def text_of(self, name):
        """The text of the value of a name of the top place."""
        if not isinstance(name, str) or name not in self._course.top_place.held:
            raise UnknownName(name)
        return text_of_value(self._course.top_place.held[name], self._course.texts)

    def frozen(self):
        """The text of what the machine is now."""
        return frozen_text(self._course)

    def twin(self):
        """A machine in the same state that goes on by itself."""
        return Machine.thawed(self._code, self.frozen())
