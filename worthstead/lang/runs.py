"""Runs of programs, statement by statement."""

from worthstead.code.making import compiled
from worthstead.errors import InvalidNumber
from worthstead.exact.ratios import is_plain_int
from worthstead.lang.trees import check_program
from worthstead.machine.machine import Machine


class Run:
    """A run of a program, ahead of one of its statements or behind the end."""

    def __init__(self, program):
        check_program(program)
        self._left = len(program)
        self._machine = Machine(compiled(program))

    @property
    def end(self):
        """How the run ended, or None."""
        return self._machine.end

    @property
    def lines(self):
        """The tuple of the lines that were printed."""
        return self._machine.lines

    @property
    def steps(self):
        """How many steps were counted."""
        return self._machine.steps

    @property
    def names(self):
        """The ascending tuple of the names of the top place."""
        return self._machine.names

    def advance(self, *, many=None):
        """Do the next statements, or all, and tell how many are left."""
        if many is not None and (not is_plain_int(many) or many < 0):
            raise InvalidNumber(many)
        wanted = self._left if many is None else min(many, self._left)
        for _ in range(wanted):
            self.do_statement()
        if self._left == 0:
            self._machine.run_on()
        return self._left

    def do_statement(self):
        """Do the next statement, if the run goes on."""
        self._machine.step()
        while self._machine.end is None and not self.is_ahead_of_statement():
            self._machine.step()
        self._left = 0 if self._machine.end is not None else self._left - 1

    def is_ahead_of_statement(self):
        """Whether the next row is the one with which a statement begins."""
        block, row = self._machine.place
        return self._machine.code[block].rows[row][0] == "statement"

    def text_of(self, name):
        """The text of the value of a name of the top place."""
        return self._machine.text_of(name)


def outcome(program):
    """The end, the lines and the steps of the whole run of a program."""
    run = Run(program)
    run.advance()
    return run.end, run.lines, run.steps
