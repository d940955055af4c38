"""Steps that can be taken back and done again."""

from worthstead.errors import InvalidNumber, InvalidOperation, NothingToUndo
from worthstead.exact.ratios import is_plain_int
from worthstead.names import is_name


class Steps:
    """What is there now, ahead of each step that is done, and behind each one that was taken back."""

    def __init__(self, now):
        self.now = now
        self.past = []
        self.future = []

    def take(self, now):
        """Take a new step, behind which this is there."""
        self.past.append(self.now)
        self.future = []
        self.now = now

    def take_back(self, many):
        """Take back the last steps."""
        check_many(many, len(self.past))
        for _ in range(many):
            self.future.append(self.now)
            self.now = self.past.pop()

    def take_again(self, many):
        """Do the last steps again that were taken back."""
        check_many(many, len(self.future))
        for _ in range(many):
            self.past.append(self.now)
            self.now = self.future.pop()

    def copied(self):
        """The same steps, to go on by themselves."""
        made = Steps(self.now)
        made.past = list(self.past)
        made.future = list(self.future)
        return made


def check_many(value, most):
    """Raise an error unless the value is a number of steps, and there are so many."""
    if not is_plain_int(value) or value < 0:
        raise InvalidNumber(value)
    if value > most:
        raise NothingToUndo(value)


def check_step_name(value):
    """Raise an error unless the value is a name."""
    if not is_name(value):
        raise InvalidOperation("this is no name")
