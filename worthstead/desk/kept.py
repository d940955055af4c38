"""Fits that are kept up to date while their rows and terms change."""

from worthstead.desk.pledges import check_all, check_new, is_pledge, sorted_pledge
from worthstead.desk.steps import Steps
from worthstead.errors import InvalidFormula, InvalidNumber, InvalidOperation, TooMany
from worthstead.exact.ratios import is_between, is_ratio
from worthstead.fits.fits import Fit
from worthstead.formulas.formulas import check_formula
from worthstead.models.models import Model
from worthstead.names import are_ascending_names
from worthstead.tables.columns import FACTOR, MAX_ROWS, like_column
from worthstead.tables.tables import Table, check_table, with_rows


class KeptFit:
    """A fit of a table whose rows and terms come and go, with pledges that all of its models keep."""

    def __init__(self, table, formula, *, codings=None):
        check_table(table)
        check_formula(formula)
        if formula.response is None:
            raise InvalidFormula("the formula has no response")
        fit = Fit(Model(table, formula, codings=codings))
        self._codings = {} if codings is None else {name: codings[name] for name in sorted(list(codings))}
        self._history = Steps((tuple(range(table.total)), fit, ()))
        # Numbers are never given twice, so what is taken back does not lower this.
        self._unused = table.total
        self._elder = fit

    @property
    def table(self):
        """The table of the rows."""
        return fit_of(self._history).model.table

    @property
    def formula(self):
        """The formula."""
        return fit_of(self._history).model.formula

    @property
    def codings(self):
        """The codings that were passed."""
        return {name: self._codings[name] for name in self._codings}

    @property
    def model(self):
        """The model."""
        return fit_of(self._history).model

    @property
    def fit(self):
        """The fit."""
        return fit_of(self._history)

    @property
    def numbers(self):
        """The numbers of the rows, ascending."""
        return numbers_of(self._history)

    @property
    def pledges(self):
        """The tuple of the pledges."""
        return tuple([sorted_pledge(weights) for weights in pledges_of(self._history)])

    @property
    def changes(self):
        """The columns whose weights the last call changed, each with the elder and the new weight."""
        return changes_between(self._elder, fit_of(self._history))

    @property
    def steps(self):
        """How many steps can be taken back."""
        return len(self._history.past)

    def put(self, row):
        """Put in a further row, and return its number."""
        table = self.table
        if not is_row_of(row, table):
            raise InvalidOperation("this is no row for the columns of the table")
        if table.total + 1 > MAX_ROWS:
            raise TooMany(MAX_ROWS)
        number = self._unused
        self.change_rows(table.bound(single_row(table, row)), self.numbers + (number,))
        self._unused = number + 1
        return number

    def drop(self, number):
        """Drop the row with a number."""
        numbers = self.numbers
        if not is_between(number, 0, self._unused - 1) or number not in numbers:
            raise InvalidNumber(number)
        left = [at for at, other in enumerate(numbers) if other != number]
        self.change_rows(with_rows(self.table, left), tuple([numbers[at] for at in left]))

    def bring(self, term):
        """Bring a further term, which comes about last."""
        self.check_term(term)
        if term in self.formula:
            raise InvalidFormula("the formula has the term")
        self.change_formula(self.formula.with_term(term))

    def take(self, term):
        """Take out a term."""
        self.check_term(term)
        if term not in self.formula:
            raise InvalidFormula("the formula has no such term")
        self.change_formula(self.formula.without(term))

    def pledge(self, weights):
        """Make a further pledge, and return its index."""
        if not is_pledge(weights, self.model):
            raise InvalidOperation("this is no pledge by columns of the model")
        check_new(weights, self.model)
        pledges = pledges_of(self._history)
        self.step_to(self.numbers, self.fit, pledges + (sorted_pledge(weights),))
        return len(pledges)

    def release(self, index):
        """Release a pledge."""
        pledges = pledges_of(self._history)
        if not is_between(index, 0, len(pledges) - 1):
            raise InvalidNumber(index)
        self.step_to(self.numbers, self.fit, pledges[:index] + pledges[index + 1:])

    def undo(self, *, many=1):
        """Take back the last steps, and return how many can be taken back then."""
        elder = self.fit
        self._history.take_back(many)
        self.note_elder(elder, many)
        return self.steps

    def redo(self, *, many=1):
        """Do the last steps again that were taken back, and return how many can be taken back then."""
        elder = self.fit
        self._history.take_again(many)
        self.note_elder(elder, many)
        return self.steps

    def twin(self):
        """An equal kept fit with the same steps that goes on by itself."""
        made = KeptFit(self.table, self.formula, codings=self._codings)
        made._history = self._history.copied()
        made._unused = self._unused
        made._elder = self._elder
        return made

    def __len__(self):
        return len(numbers_of(self._history))

    def __eq__(self, other):
        return (
            isinstance(other, KeptFit) and self.numbers == other.numbers and self.table == other.table
            and self.formula == other.formula and self._codings == other._codings and self.pledges == other.pledges
        )

    def __str__(self):
        return f"kept fit of {len(numbers_of(self._history))} rows, {len(fit_of(self._history).model.names)} columns"

    def check_term(self, term):
        """Raise an error unless the value is a term of columns other than the response."""
        if not are_ascending_names(term) or not all([name in self.table for name in term]):
            raise InvalidFormula("this is no ascending tuple of columns")
        if self.formula.response in term:
            raise InvalidFormula("the response is in the term")

    def change_rows(self, table, numbers):
        """Take the step to another table."""
        self.change_fit(table, self.formula, numbers)

    def change_formula(self, formula):
        """Take the step to another formula."""
        self.change_fit(self.table, formula, self.numbers)

    def change_fit(self, table, formula, numbers):
        """Take the step to another table and formula, if their fit can be made and all pledges are kept."""
        fit = Fit(Model(table, formula, codings=self._codings))
        pledges = pledges_of(self._history)
        check_all(pledges, fit.model)
        self.step_to(numbers, fit, pledges)

    def step_to(self, numbers, fit, pledges):
        """Take a step."""
        self._elder = self.fit
        self._history.take((numbers, fit, pledges))

    def note_elder(self, fit, many):
        """Note what the fit was ahead of a call that changed something."""
        if many > 0:
            self._elder = fit


def numbers_of(history):
    """The numbers of the rows."""
    return history.now[0]


def fit_of(history):
    """The present fit."""
    return history.now[1]


def pledges_of(history):
    """The present pledges."""
    return history.now[2]


def is_row_of(value, table):
    """Whether the value is a dict from all names of a table to values as its columns have them."""
    if not isinstance(value, dict) or len(value) != len(table.names):
        return False
    return all([name in value and is_value_for(table[name], value[name]) for name in table.names])


def is_value_for(column, value):
    """Whether the value is one that a column could have."""
    if value is None:
        return True
    return is_between(value, 0, len(column.levels) - 1) if column.kind == FACTOR else is_ratio(value)


def single_row(table, row):
    """The table of one row with columns like those of a table."""
    return Table({name: like_column(table[name], [row[name]]) for name in table.names}, total=1)


def changes_between(elder, fit):
    """The triples of the columns that two fits have with unlike weights, or just one of them has."""
    if elder == fit:
        return ()
    before = {name: weight for name, weight in zip(elder.model.names, elder.weights)}
    behind = {name: weight for name, weight in zip(fit.model.names, fit.weights)}
    names = sorted(set(list(before) + list(behind)))
    triples = [(name, before.get(name), behind.get(name)) for name in names]
    return tuple([triple for triple in triples if triple[1] != triple[2]])
