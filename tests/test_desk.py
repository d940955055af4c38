"""Stage 14: desks."""

import random

from tests.making import factor, numbers
from tests.support import Case, wrong_values
from worthstead.desk.desk import Desk
from worthstead.errors import InvalidModel, InvalidOperation, NothingToUndo, Refused, TooMany, UnknownName
from worthstead.fits.fits import Fit
from worthstead.formulas.formulas import Formula
from worthstead.formulas.reader import read_formula
from worthstead.models.models import Model
from worthstead.plans.plans import Plan
from worthstead.tables.columns import Numbers
from worthstead.tables.tables import Table

DATA = Table({"a": factor(2, (0, 1)), "y": numbers(1, 3)})
MORE = Table({"a": factor(3, (0, 1, 2)), "y": numbers(1, 3, 4)})
LESS = Table({"y": numbers(1, 3)})
FORM = read_formula("y ~ a")
PLAIN = read_formula("y ~ 1")
NONE = read_formula("a")
PLAN = Plan(2, ("a", "b"), ())
ERRORS = (InvalidModel, TooMany, UnknownName, Refused)


def desk_of(*several):
    desk = Desk()
    for name, thing in several:
        desk.lay(name, thing)
    return desk


class DeskTest(Case):
    def test_small_ones(self):
        desk = Desk()
        self.assertEqual((desk.names, len(desk), "a" in desk), ((), 0, False))
        self.assertIsNone(desk.lay("t", DATA))
        desk.lay("f", FORM)
        desk.lay("p", PLAN)
        self.assertIsNone(desk.order("x", "t", "f"))
        self.assertEqual((desk.names, len(desk)), (("f", "p", "t", "x"), 4))
        self.assertEqual((desk.thing("t"), desk.thing("f"), desk.thing("p")), (DATA, FORM, PLAN))
        self.assertEqual(desk.thing("x"), Fit(Model(DATA, FORM)))
        self.assertEqual(["t" in desk, "x" in desk, "z" in desk], [True, True, False])
        # A fit is that of what has the names then.
        desk.lay("t", MORE)
        self.assertEqual(desk.thing("x"), Fit(Model(MORE, FORM)))
        desk.lay("f", PLAIN)
        self.assertEqual(desk.thing("x"), Fit(Model(MORE, PLAIN)))
        self.assertEqual((desk.undo(many=2), desk.thing("x")), (4, Fit(Model(DATA, FORM))))
        self.assertIsNone(desk.lift("x"))
        self.assertEqual((desk.names, desk.lift("t"), desk.names), (("f", "p", "t"), None, ("f", "p")))
        self.assertRaises(TypeError, iter, desk)

    def test_elder_ones(self):
        desk = desk_of(("a", DATA), ("b", FORM), ("c", PLAN))
        desk.order("d", "a", "b")
        things = {"a": DATA, "b": FORM, "c": PLAN}
        for name in "abcd":
            for other, thing in things.items():
                if name == other:
                    desk.lay(name, thing)
                else:
                    self.raises(InvalidOperation, desk.lay, name, thing)
            self.raises(InvalidOperation, desk.order, name, "a", "b")
        self.assertEqual(desk.undo(), 6)

    def test_fits_that_could_not_be_made(self):
        desk = desk_of(("t", DATA), ("u", DATA), ("f", FORM), ("g", PLAIN))
        desk.order("z", "t", "f")
        desk.order("m", "t", "f")
        desk.order("k", "t", "g")
        desk.order("b", "u", "f")
        self.refused(("fit", "m"), desk.lay, "t", LESS)
        self.refused(("fit", "b"), desk.lay, "u", LESS)
        self.refused(("fit", "b"), desk.lay, "f", NONE)
        self.refused(("fit", "b"), desk.lay, "f", read_formula("y ~ q"))
        self.refused(("fit", "b"), desk.lay, "f", read_formula("a ~ y"))
        self.refused(("fit", "k"), desk.lay, "g", NONE)
        self.refused(("fit", "k"), desk.lay, "t", Table({"y": Numbers((numbers(1).ratios[0],) * 65), "a": factor(2, (0,) * 65)}))
        self.refused(("fit", "k"), desk.lay, "t", Table({"y": numbers(1, 1234567), "a": factor(2, (0, 1))}))
        self.refused(("fit", "k"), desk.lay, "t", Table({}))
        self.assertEqual((desk.thing("t"), desk.thing("f"), desk.undo(many=0)), (DATA, FORM, 8))
        desk.lift("z")
        desk.lift("m")
        desk.lay("t", LESS)
        self.assertEqual(desk.thing("k"), Fit(Model(LESS, PLAIN)))
        self.assertEqual((desk.undo(many=3), desk.thing("z")), (8, Fit(Model(DATA, FORM))))

    def test_lift(self):
        desk = desk_of(("t", DATA), ("f", FORM), ("p", PLAN))
        for name in ("z", "m", "q"):
            desk.order(name, "t", "f")
        for name in ("t", "f"):
            self.refused(("used", "m"), desk.lift, name)
        desk.lift("m")
        self.refused(("used", "q"), desk.lift, "t")
        desk.lift("q")
        desk.lift("z")
        self.assertEqual((desk.lift("t"), desk.lift("p"), desk.names), (None, None, ("f",)))
        self.unknown("t", desk.lift, "t")

    def test_names(self):
        desk = desk_of(("t", DATA), ("f", FORM))
        for value in wrong_values() + ["in", "text", "A", "abcdefghi", "1a", ("t",)]:
            if value != "a" or not isinstance(value, str):
                self.raises(InvalidOperation, desk.lay, value, DATA)
                self.raises(InvalidOperation, desk.lay, value, None)
                self.raises(InvalidOperation, desk.order, value, "t", "f")
                self.raises(InvalidOperation, desk.order, value, None, None)
                self.raises(InvalidOperation, desk.lift, value)
                self.raises(InvalidOperation, desk.thing, value)
                self.assertFalse(value in desk)
            self.raises(InvalidOperation, desk.lay, "x", value) if not isinstance(value, (Table, Formula, Plan)) else None
        self.unknown("zz", desk.lift, "zz")
        self.unknown("zz", desk.thing, "zz")
        self.assertEqual(desk.names, ("f", "t"))

    def test_every_value_as_a_name_in_order(self):
        desk = desk_of(("t", DATA), ("f", FORM), ("p", PLAN))
        for value in wrong_values() + ["f", "p", "in", "zz", ("t",), DATA, FORM]:
            self.unknown(value, desk.order, "x", value, None)
            self.unknown(value, desk.order, "x", value, "f")
        for value in wrong_values() + ["t", "p", "in", "zz", ("f",), DATA, FORM]:
            self.unknown(value, desk.order, "x", "t", value)
        desk.order("x", "t", "f")
        self.unknown("x", desk.order, "w", "x", "f")
        self.unknown("x", desk.order, "w", "t", "x")
        self.assertEqual(desk.undo(), 3)

    def test_errors_of_orders(self):
        desk = desk_of(("t", DATA), ("f", FORM), ("n", NONE), ("q", read_formula("y ~ q")), ("w", read_formula("a ~ y")), ("l", Table({"y": numbers(1, 1234567)})))
        desk.lay("g", PLAIN)
        self.refused(("response",), desk.order, "x", "t", "n")
        self.unknown("q", desk.order, "x", "t", "q")
        self.raises(InvalidModel, desk.order, "x", "t", "w")
        self.too_many(6, desk.order, "x", "l", "g")
        self.raises(InvalidOperation, desk.order, "t", "t", "n")
        self.unknown("zz", desk.order, "x", "zz", "n")
        self.assertEqual((desk.names, desk.undo(many=0)), (("f", "g", "l", "n", "q", "t", "w"), 7))

    def test_undo_and_redo(self):
        desk = desk_of(("t", DATA), ("f", FORM))
        desk.order("x", "t", "f")
        self.assertEqual(self.raises(NothingToUndo, desk.undo, many=4).many, 4)
        self.assertEqual(self.raises(NothingToUndo, desk.redo).many, 1)
        self.assertEqual((desk.undo(many=0), desk.redo(many=0), desk.undo(), desk.names), (3, 3, 2, ("f", "t")))
        self.assertEqual(self.raises(NothingToUndo, desk.redo, many=2).many, 2)
        # A rejected step takes nothing away from what can be done again.
        self.raises(InvalidOperation, desk.lay, "t", FORM)
        self.unknown("zz", desk.lift, "zz")
        self.assertEqual((desk.redo(), desk.names), (3, ("f", "t", "x")))
        self.assertEqual((desk.undo(many=2), desk.names), (1, ("t",)))
        desk.lay("p", PLAN)
        self.assertEqual(self.raises(NothingToUndo, desk.redo).many, 1)
        self.assertEqual((desk.undo(many=2), desk.names, desk.redo(), desk.redo(), desk.names), (0, (), 1, 2, ("p", "t")))
        for value in wrong_values():
            if not (type(value) is int and 0 <= value < 10 ** 60):
                self.number(value, desk.undo, many=value)
                self.number(value, desk.redo, many=value)
        self.assertRaises(TypeError, desk.undo, 1)

    def test_twins(self):
        desk = desk_of(("t", DATA), ("f", FORM))
        desk.order("x", "t", "f")
        desk.undo()
        twin = desk.twin()
        self.assertEqual(twin, desk)
        self.assertEqual((twin.redo(), twin.names, desk.names), (3, ("f", "t", "x"), ("f", "t")))
        self.assertNotEqual(twin, desk)
        desk.lay("t", MORE)
        self.assertEqual((twin.thing("t"), twin.undo(many=3), desk.undo(many=2), desk.names), (DATA, 0, 1, ("t",)))

    def test_equal(self):
        desk, other = desk_of(("t", DATA), ("f", FORM)), desk_of(("f", FORM), ("t", Table(DATA.columns)))
        self.assertEqual(desk, other)
        desk.order("x", "t", "f")
        self.assertNotEqual(desk, other)
        other.lay("u", DATA)
        other.order("x", "u", "f")
        desk.lay("u", DATA)
        # Fits of equal tables with unlike names are unlike.
        self.assertNotEqual(desk, other)
        self.assertEqual(desk.thing("x"), other.thing("x"))
        other.lift("x")
        other.order("x", "t", "f")
        self.assertEqual(desk, other)
        other.lay("u", MORE)
        self.assertNotEqual(desk, other)
        self.assertNotEqual(desk_of(("t", DATA)), desk_of(("u", DATA)))
        self.assertNotEqual(desk_of(("t", PLAN)), desk_of(("t", FORM)))
        self.assertEqual(Desk(), Desk())
        for value in wrong_values():
            self.assertFalse(desk == value)
            self.assertTrue(desk != value)

    def test_by_chance(self):
        rng = random.Random(1403)
        tables, formulas = [DATA, MORE, LESS, Table({})], [FORM, PLAIN, NONE, read_formula("y ~ 0")]
        names = ["a", "b", "c", "d", "e"]
        seen = set()
        for _ in range(60):
            desk, states, at = Desk(), [{}], 0
            for _ in range(40):
                now = states[at]
                word = rng.choice(["lay", "lay", "lay", "order", "order", "lift", "undo", "redo"])
                name = rng.choice(names)
                if word in ("undo", "redo"):
                    many = rng.randint(0, 3)
                    most = at if word == "undo" else len(states) - 1 - at
                    if many > most:
                        seen.add("nothing")
                        self.raises(NothingToUndo, getattr(desk, word), many=many)
                    else:
                        at += -many if word == "undo" else many
                        self.assertEqual(getattr(desk, word)(many=many), at)
                else:
                    thing = rng.choice(tables + formulas + [PLAN])
                    args = {"lay": (name, thing), "order": (name, self.likely(rng, now, Table, names), self.likely(rng, now, Formula, names)), "lift": (name,)}[word]
                    expected = self.expected(now, word, args)
                    if isinstance(expected, Exception):
                        error = self.raises(type(expected), getattr(desk, word), *args)
                        self.assertEqual(vars(error), vars(expected))
                        seen.add((word, type(expected).__name__))
                    else:
                        self.assertIsNone(getattr(desk, word)(*args))
                        states[at + 1:] = [expected]
                        at += 1
                        seen.add(word)
                self.compare(desk, states[at])
        self.assertLessEqual({"lay", "order", "lift", "nothing", ("lay", "Refused"), ("lift", "Refused"), ("lay", "InvalidOperation"),
                              ("order", "UnknownName"), ("order", "Refused"), ("lift", "UnknownName")}, seen)

    def likely(self, rng, now, kind, names):
        """A name, mostly one that has a thing of a kind."""
        right = [name for name in now if isinstance(now[name], kind)]
        return rng.choice(right) if right and rng.random() < 0.8 else rng.choice(names)

    def compare(self, desk, state):
        self.assertEqual((desk.names, len(desk)), (tuple(sorted(state)), len(state)))
        for name, thing in state.items():
            self.assertEqual(desk.thing(name), self.fit(state, thing) if isinstance(thing, tuple) else thing)

    def fit(self, state, needed):
        return Fit(Model(state[needed[0]], state[needed[1]]))

    def expected(self, now, word, args):
        """What is there behind a step, or its error."""
        name = args[0]
        if word == "lift":
            if name not in now:
                return UnknownName(name)
            using = sorted(other for other, thing in now.items() if isinstance(thing, tuple) and name in thing)
            return Refused(("used", using[0])) if using else {other: now[other] for other in now if other != name}
        if word == "lay":
            if name in now and type(now[name]) is not type(args[1]):
                return InvalidOperation("")
            state = {**now, name: args[1]}
            for other in sorted(state):
                if isinstance(state[other], tuple) and name in state[other]:
                    try:
                        self.fit(state, state[other])
                    except ERRORS:
                        return Refused(("fit", other))
            return state
        if name in now:
            return InvalidOperation("")
        for other, kind in ((args[1], Table), (args[2], Formula)):
            if not isinstance(now.get(other), kind):
                return UnknownName(other)
        try:
            self.fit(now, args[1:])
        except ERRORS as error:
            return error
        return {**now, name: args[1:]}
