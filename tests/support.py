"""What several tests use."""

import unittest
from fractions import Fraction

from worthstead import errors
from worthstead.code.blocks import Block, Code
from worthstead.code.making import compiled
from worthstead.desk.desk import Desk
from worthstead.desk.kept import KeptFit
from worthstead.exact.ratios import Ratio
from worthstead.exact.spaces import Space
from worthstead.formulas.counts import Count
from worthstead.formulas.formulas import Formula
from worthstead.lang.runs import Run
from worthstead.machine.machine import Machine
from worthstead.models.models import Model
from worthstead.plans.blocks import Blocked
from worthstead.plans.plans import Plan
from worthstead.tables.columns import Factor, Numbers
from worthstead.tables.tables import Table
from worthstead.trials.relabelings import Relabelings


def r(text):
    """The ratio of a text, or of an integer."""
    return Ratio.of_text(str(text))


def row(text):
    """The row of the ratios of a text with blanks between."""
    return tuple(r(word) for word in text.split())


def rows(*texts):
    return tuple(row(text) for text in texts)


def texts(values):
    """The texts of ratios in nested tuples."""
    if isinstance(values, (tuple, list, Space)):
        return [texts(value) for value in values]
    return None if values is None else str(values)


def fraction(one):
    return Fraction(one.top, one.bottom)


def long_ratio(top_digits, bottom_digits=1):
    """A ratio with so many digits above and below: its top ends with 7, and its bottom is a power of ten less 1."""
    bottom = "9" * bottom_digits if bottom_digits > 1 else "1"
    text = "1" + "0" * (top_digits - 2) + "7" if top_digits > 1 else "7"
    return Ratio.of_text(text if bottom == "1" else f"{text}/{bottom}")


def nested(depth, inner=0):
    value = inner
    for at in range(depth):
        value = (value,) if at % 3 == 0 else [value] if at % 3 == 1 else {"a": value}
    return value


def wrong_values():
    """Values of every kind of which the document says that invalid ones are rejected."""
    return [
        None, True, False, 0, 1, -1, 7, 10 ** 59, 10 ** 60, -(10 ** 60), 10 ** 99, "", "a", "a" * 10000, "1/2", "\n", "~",
        (), (0,), ((),), (None,), ("a",), ("a", "a"), (("a",), ("a",)), ((("a",),),), ([],), ({},), (True,),
        [], [0], ["a"], [[]], [()], {}, {"a": 0}, {"a": "factor"}, {0: 1}, {(): ()}, {None: None}, {True: False},
        nested(50), nested(49, "a"), nested(50, ()), Ratio(1), (Ratio(1),), ((Ratio(1),), (Ratio(1), Ratio(2))),
        Factor(("x", "y"), (0, 1)), Numbers((None,)), Table({}), Table({}, total=3), Formula(()), Formula(((), ("a",))),
        Count({}), Space(0, ()), Space.whole(2), errors.WorthError("a"), errors.TooMany(3), (Formula(()), Table({})),
        {"a": Table({})}, {"a": Ratio(1)}, [Ratio(1)], [(Ratio(1),)], Model(Table({}), Formula(())), Plan(2, ("a",), ()),
        (Model(Table({}), Formula(())),), ("told", ()), {"a": {"a": "first"}}, *late_objects(),
    ]


def late_objects():
    """An object of each class of the later stages; the code is none that is sound."""
    block = Block("late", (), (), (("end",),))
    kept = KeptFit(Table({"y": Numbers((None,))}), Formula(((),), response="y"))
    return [
        Blocked(Plan(2, ("a",), ()), ((1,),)), Relabelings(("a",), (0,)), block, Code((block,)), Run(()), Machine(compiled(())),
        kept, Desk(),
    ]


class Case(unittest.TestCase):
    """A test that can ask which error a call raises, and what it keeps."""

    def raises(self, kind, call, *args, **more):
        """The call raises this very kind of error, and the error is returned."""
        with self.assertRaises(kind) as caught:
            call(*args, **more)
        self.assertIs(type(caught.exception), kind)
        return caught.exception

    def number(self, given, call, *args, **more):
        self.assertIs(self.raises(errors.InvalidNumber, call, *args, **more).given, given)

    def unknown(self, wanted, call, *args, **more):
        self.assertEqual(self.raises(errors.UnknownName, call, *args, **more).wanted, wanted)

    def too_many(self, limit, call, *args, **more):
        self.assertEqual(self.raises(errors.TooMany, call, *args, **more).limit, limit)

    def refused(self, reason, call, *args, **more):
        self.assertEqual(self.raises(errors.Refused, call, *args, **more).reason, reason)

    def parse(self, spot, call, *args, **more):
        self.assertEqual(self.raises(errors.ParseError, call, *args, **more).spot, spot)

    def all_rejected(self, kind, call, right=()):
        """All wrong values are rejected, but for those that are right here."""
        for value in wrong_values():
            # Where a model or a plan is asked for, the ones among these values are right.
            asked = {errors.InvalidModel: Model, errors.InvalidPlan: Plan}.get(kind)
            if type(value) is not asked and not any(type(value) is type(one) and value == one for one in right):
                with self.subTest(value=repr(value)[:80]):
                    self.raises(kind, call, value)
