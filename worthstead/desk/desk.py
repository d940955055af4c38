"""Desks: tables, formulas and plans under names, and fits of them."""

from worthstead.desk.steps import Steps, check_step_name
from worthstead.errors import InvalidModel, InvalidOperation, Refused, TooMany, UnknownName
from worthstead.fits.fits import Fit
from worthstead.formulas.formulas import Formula
from worthstead.models.models import Model
from worthstead.plans.plans import Plan
from worthstead.tables.tables import Table

TABLE = "table"
FORMULA = "formula"
PLAN = "plan"
FIT = "fit"


class Desk:
    """Tables, formulas, plans, and fits that follow them."""

    def __init__(self):
        # The present things are dicts from names to pairs of a kind and the thing, that of a fit being two names.
        self._history = Steps({})

    @property
    def names(self):
        """The names, ascending."""
        return tuple(sorted(list(self._history.now)))

    def lay(self, name, thing):
        """Lay a table, a formula or a plan under a name, perhaps in the place of an elder one."""
        check_step_name(name)
        things = self._history.now
        kind = kind_of_laid(thing)
        if kind is None or (name in things and things[name][0] != kind):
            raise InvalidOperation("this cannot be laid under the name")
        changed = things_with(things, name, (kind, thing))
        check_fits(changed, name)
        self._history.take(changed)

    def order(self, name, data, formula):
        """Order a fit of what two names have."""
        check_step_name(name)
        things = self._history.now
        if name in things:
            raise InvalidOperation("the name has something")
        if not is_of_kind(things, data, TABLE):
            raise UnknownName(data)
        if not is_of_kind(things, formula, FORMULA):
            raise UnknownName(formula)
        made_fit(things, (data, formula))
        self._history.take(things_with(things, name, (FIT, (data, formula))))

    def lift(self, name):
        """Take away what has a name."""
        check_step_name(name)
        things = self._history.now
        if name not in things:
            raise UnknownName(name)
        needing = fits_of(things, name)
        if needing:
            raise Refused(("used", needing[0]))
        self._history.take({other: things[other] for other in things if other != name})

    def thing(self, name):
        """What has a name."""
        check_step_name(name)
        things = self._history.now
        if name not in things:
            raise UnknownName(name)
        kind, held = things[name]
        return made_fit(things, held) if kind == FIT else held

    def undo(self, *, many=1):
        """Take back the last steps, and return how many can be taken back then."""
        self._history.take_back(many)
        return len(self._history.past)

    def redo(self, *, many=1):
        """Do the last steps again that were taken back, and return how many can be taken back then."""
        self._history.take_again(many)
        return len(self._history.past)

    def twin(self):
        """An equal desk with the same steps that goes on by itself."""
        made = Desk()
        made._history = self._history.copied()
        return made

    def __contains__(self, x):
        return isinstance(x, str) and x in self._history.now

    def __len__(self):
        return len(self._history.now)

    def __eq__(self, other):
        return isinstance(other, Desk) and self._history.now == other._history.now


def kind_of_laid(value):
    """The kind of a thing that can be laid, or None."""
    if isinstance(value, Table):
        return TABLE
    if isinstance(value, Formula):
        return FORMULA
    return PLAN if isinstance(value, Plan) else None


def is_of_kind(things, value, kind):
    """Whether the value is the name of a thing of a kind."""
    return isinstance(value, str) and value in things and things[value][0] == kind


def things_with(things, name, pair):
    """The things with another one under a name."""
    found = {other: things[other] for other in things}
    found[name] = pair
    return found


def made_fit(things, needed):
    """The fit of the table and the formula with two names."""
    data, formula = needed
    return Fit(Model(things[data][1], things[formula][1]))


def fits_of(things, name):
    """The names of the fits that need what has a name, ascending."""
    return sorted([other for other in things if things[other][0] == FIT and name in things[other][1]])


def check_fits(things, name):
    """Raise an error for the first fit that needs what has a name and cannot be made."""
    for other in fits_of(things, name):
        if not is_fit_made(things, things[other][1]):
            raise Refused(("fit", other))


def is_fit_made(things, needed):
    """Whether the fit of the table and the formula with two names can be made."""
    try:
        made_fit(things, needed)
    except UnknownName:
        return False
    except InvalidModel:
        return False
    except TooMany:
        return False
    except Refused:
        return False
    return True
