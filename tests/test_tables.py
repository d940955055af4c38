"""[3.1] to [3.4]: columns and tables."""

import itertools
import random

from tests.support import Case, fraction, long_ratio, r, row, wrong_values
from worthstead.errors import InvalidOperation, InvalidTable, UnknownName
from worthstead.exact.ratios import Ratio
from worthstead.tables.columns import Factor, Numbers
from worthstead.tables.tables import Table

LEVELS = ("x", "y", "z")
A = Factor(("low", "high"), (0, 1, None, 1))
B = Factor(LEVELS, (2, 0, 0, None))
Y = Numbers((Ratio(1), Ratio(1, 2), None, Ratio(-3)))
T = Table({"b": B, "y": Y, "a": A})


def twelve(many=12):
    return {f"c{at}": Numbers((Ratio(at),)) for at in range(many)}


class ColumnTest(Case):
    def test_factor(self):
        self.assertEqual((A.levels, A.codes, A.kind, len(A)), (("low", "high"), (0, 1, None, 1), "factor", 4))
        self.assertEqual(Factor(("x", "y"), ()).codes, ())
        twelve_levels = tuple(f"l{at}" for at in range(12))
        self.assertEqual(Factor(twelve_levels, (11, 0)).levels, twelve_levels)
        self.assertEqual(len(Factor(("x", "y"), (1,) * 200)), 200)
        self.assertEqual(Factor(("0", "abcdefg8"), (1,)).levels, ("0", "abcdefg8"))
        self.assertEqual(Factor(("if", "in"), (1,)).levels, ("if", "in"))

    def test_factors_that_are_wrong(self):
        for levels in (
            ("x",), tuple(f"l{at}" for at in range(13)), ("x", "x"), ("x", ""), ("x", "abcdefghi"), ("x", "A"),
            ("x", "_"), ("x", "?"), ("x", "y z"), ["x", "y"], ("x", 1), ("x", None), ("x", ("y",)), "xy", {"x": 0, "y": 1},
        ):
            self.raises(InvalidTable, Factor, levels, ())
            self.raises(InvalidTable, Factor.of_names, levels, ())
        for codes in ((2,), (-1,), (True,), (0, False), ("x",), [0], (0, [0]), (0,) * 201, (Ratio(0),), (10 ** 70,), 0):
            self.raises(InvalidTable, Factor, ("x", "y"), codes)
        self.all_rejected(InvalidTable, lambda value: Factor(value, ()))
        self.all_rejected(InvalidTable, lambda value: Factor(("x", "y"), value), [(), (0,), (None,)])

    def test_of_names(self):
        self.assertEqual(Factor.of_names(("low", "high"), ("low", "high", None, "high")), A)
        self.assertEqual(Factor.of_names(LEVELS, ()), Factor(LEVELS, ()))
        for values in (("w",), (0,), (None, "x", ""), ["x"], ("x",) * 201, (("x",),), ([],), "x", None, (True,)):
            self.raises(InvalidTable, Factor.of_names, LEVELS, values)
        self.all_rejected(InvalidTable, lambda value: Factor.of_names(LEVELS, value), [(), (None,)])

    def test_numbers(self):
        self.assertEqual((Y.ratios, Y.kind, len(Y)), ((Ratio(1), Ratio(1, 2), None, Ratio(-3)), "number", 4))
        self.assertEqual(len(Numbers((None,) * 200)), 200)
        self.assertEqual(Numbers((long_ratio(2000),)).ratios[0], long_ratio(2000))
        self.all_rejected(InvalidTable, Numbers, [(), (None,), (Ratio(1),)])
        self.raises(InvalidTable, Numbers, (None,) * 201)
        self.raises(InvalidTable, Numbers, (Ratio(1), 1))
        self.raises(InvalidTable, Numbers, [Ratio(1)])

    def test_equality(self):
        self.assertEqual(A, Factor(("low", "high"), (0, 1, None, 1)))
        self.assertNotEqual(A, Factor(("high", "low"), (1, 0, None, 0)))
        self.assertNotEqual(A, Factor(("low", "high"), (0, 1, None, 0)))
        self.assertNotEqual(A, Factor(("low", "high", "more"), (0, 1, None, 1)))
        self.assertNotEqual(Factor(("x", "y"), ()), Numbers(()))
        self.assertNotEqual(Numbers(()), Factor(("x", "y"), ()))
        self.assertEqual(Numbers((Ratio(2, 4),)), Numbers((Ratio(1, 2),)))
        self.assertNotEqual(Numbers((None,)), Numbers((Ratio(0),)))
        for value in wrong_values():
            for column in (A, Y):
                self.assertIs(column == value, False)
                self.assertIs(column != value, True)

    def test_no_iteration_and_no_setting(self):
        for column in (A, Y):
            for act in (lambda: iter(column), lambda: 0 in column, lambda: column[0], lambda: column + column):
                with self.assertRaises(TypeError):
                    act()
        for column, name in ((A, "levels"), (A, "codes"), (A, "kind"), (Y, "ratios"), (Y, "kind")):
            with self.assertRaises(AttributeError):
                setattr(column, name, ())


class MakingTest(Case):
    def test_properties(self):
        self.assertEqual((T.names, T.total, len(T)), (("a", "b", "y"), 4, 4))
        self.assertEqual(list(T.columns.items()), [("a", A), ("b", B), ("y", Y)])
        self.assertEqual(list(T.kinds.items()), [("a", "factor"), ("b", "factor"), ("y", "number")])
        self.assertEqual(str(T), "table of 4 rows: a factor, b factor, y number")
        self.assertEqual((Table({}).total, Table({}).names, str(Table({}))), (0, (), "table of 0 rows"))
        self.assertEqual((len(Table({}, total=3)), str(Table({}, total=3))), (3, "table of 3 rows"))
        self.assertEqual(Table({"a": A}, total=4), Table({"a": A}))
        self.assertEqual(str(Table({"y": Numbers((None,))})), "table of 1 rows: y number")

    def test_bounds(self):
        self.assertEqual(len(Table(twelve()).names), 12)
        self.too_many(12, Table, twelve(13))
        self.assertEqual(len(Table({}, total=200)), 200)
        for value in (201, -1, True, False, "3", 10 ** 60, Ratio(3), (), 10 ** 99):
            self.number(value, Table, {}, total=value)
            self.number(value, Table, twelve(13), total=value)

    def test_which_error_comes_first(self):
        self.raises(InvalidTable, Table, {"a": 1}, total=-1)
        self.too_many(12, Table, twelve(13), total=7)
        self.number(201, Table, {"a": A, "y": Numbers(())}, total=201)
        self.raises(InvalidTable, Table, {"a": A, "y": Numbers(())})
        self.raises(InvalidTable, Table, {"a": A}, total=3)
        self.raises(InvalidTable, Table, {"a": A}, total=0)

    def test_columns_that_are_wrong(self):
        self.all_rejected(InvalidTable, Table, [{}])
        for name in ("", "1a", "A", "in", "if", "try", "abcdefghi", 0, None, ("a",), True, "a b"):
            self.raises(InvalidTable, Table, {name: A})
        for value in wrong_values():
            if not isinstance(value, (Factor, Numbers)):
                self.raises(InvalidTable, Table, {"a": value})
        for name in ("a", "abcdefgh", "a1", "inn", "table", "z0"):
            self.assertEqual(Table({name: A}).names, (name,))

    def test_no_shared_state(self):
        columns = {"a": A}
        table = Table(columns)
        columns["b"] = B
        table.columns["c"] = B
        table.kinds["c"] = "factor"
        table.worths(0)["a"] = 7
        table.cells(("a",))[(0,)] = 7
        self.assertEqual((table.names, table.kinds, table.worths(0)), (("a",), {"a": "factor"}, {"a": 0}))
        self.assertEqual(table.cells(("a",)), {(0,): 1, (1,): 2})

    def test_members(self):
        self.assertEqual(T["a"], A)
        self.assertIs("a" in T, True)
        self.assertIs("c" in T, False)
        for value in wrong_values():
            if value != "a":
                self.assertIs(value in T, False)
                self.assertIs(self.raises(UnknownName, T.__getitem__, value).wanted, value)

    def test_equality(self):
        self.assertEqual(T, Table({"a": A, "b": B, "y": Y}))
        self.assertNotEqual(T, Table({"a": A, "b": B}))
        self.assertNotEqual(T, Table({"a": A, "b": B, "z": Y}))
        self.assertNotEqual(Table({}, total=1), Table({}, total=2))
        self.assertEqual(Table({}, total=0), Table({}))
        one, other = Factor(("x", "y"), (0,)), Factor(("y", "x"), (1,))
        self.assertNotEqual(Table({"a": one}), Table({"a": other}))
        for value in wrong_values():
            self.assertIs(T == value, False)
            self.assertIs(T != value, True)

    def test_no_iteration(self):
        for act in (lambda: iter(T), lambda: list(T), lambda: [*T], lambda: T + T, lambda: T < T):
            with self.assertRaises(TypeError):
                act()


class RowsTest(Case):
    def test_worths(self):
        self.assertEqual(list(T.worths(0).items()), [("a", 0), ("b", 2), ("y", Ratio(1))])
        self.assertEqual(T.worths(2), {"a": None, "b": 0, "y": None})
        self.assertEqual(Table({}, total=1).worths(0), {})
        for value in wrong_values() + [4]:
            if type(value) is not int or not 0 <= value < 4:
                self.number(value, T.worths, value)
        self.number(0, Table({}).worths, 0)

    def test_picked(self):
        table = T.picked((3, 0, 3))
        self.assertEqual((table["a"].codes, table["b"].codes), ((1, 0, 1), (None, 2, None)))
        self.assertEqual(table["y"].ratios, (Ratio(-3), Ratio(1), Ratio(-3)))
        self.assertEqual(table["b"].levels, LEVELS)
        self.assertEqual(len(T.picked(())), 0)
        self.assertEqual(T.picked(()).kinds, T.kinds)
        self.assertEqual(T.picked((0, 1, 2, 3)), T)
        self.assertEqual(len(Table({}, total=2).picked((1, 1, 0))), 3)
        self.assertEqual(len(T.picked((1,) * 200)), 200)

    def test_picked_that_are_wrong(self):
        self.too_many(200, T.picked, (1,) * 201)
        self.number(4, T.picked, (1,) * 300 + (4, -1))
        self.number(-1, T.picked, (0, -1, 7))
        self.number(True, T.picked, (True,))
        self.number("a", T.picked, (0, "a"))
        self.number(0, Table({}).picked, (0,))
        self.raises(InvalidOperation, T.picked, [0])
        self.raises(InvalidOperation, T.picked, 0)
        self.raises(InvalidOperation, T.picked, None)

    def test_shown(self):
        self.assertEqual(T.shown(("y", "a")), Table({"a": A, "y": Y}))
        self.assertEqual(T.shown(()), Table({}, total=4))

    def test_names_that_are_wrong(self):
        for call in (T.shown, T.ordered, T.cells, T.complete):
            self.all_rejected(InvalidOperation, call, [(), ("a",)])
            self.raises(InvalidOperation, call, ("a", "a"))
            self.raises(InvalidOperation, call, ("c", "A"))
            self.raises(InvalidOperation, call, ("in",))
            self.unknown("c", call, ("a", "c", "d"))
            self.unknown("d", call, ("d", "c", "b"))

    def test_with_column(self):
        more = T.with_column("c", Numbers((None,) * 4))
        self.assertEqual(more.names, ("a", "b", "c", "y"))
        self.assertEqual(T.with_column("a", B), Table({"a": B, "b": B, "y": Y}))
        self.assertEqual(T.names, ("a", "b", "y"))
        self.assertEqual(Table({}, total=4).with_column("a", A), Table({"a": A}))
        self.raises(InvalidTable, Table({}).with_column, "a", A)
        self.raises(InvalidTable, T.with_column, "c", Numbers((None,) * 3))
        self.raises(InvalidOperation, T.with_column, "C", 3)
        self.all_rejected(InvalidOperation, lambda value: T.with_column(value, A), ["a"])
        self.all_rejected(InvalidTable, lambda value: T.with_column("c", value))
        full = Table(twelve())
        self.too_many(12, full.with_column, "d", Numbers((None,)))
        self.assertEqual(len(full.with_column("c3", Numbers((None,))).names), 12)
        self.raises(InvalidTable, full.with_column, "d", Numbers(()))

    def test_bound(self):
        table = T.bound(T.picked((0,)))
        self.assertEqual((len(table), table.worths(4), table.worths(3)), (5, T.worths(0), T.worths(3)))
        self.assertEqual(len(Table({}, total=3).bound(Table({}, total=4))), 7)
        self.all_rejected(InvalidTable, T.bound)
        self.raises(InvalidTable, T.bound, Table({"a": A, "b": B}))
        self.raises(InvalidTable, T.bound, Table({"a": A, "b": B, "z": Y}))
        self.raises(InvalidTable, T.bound, Table({"a": A, "b": Y, "y": Y}))
        self.raises(InvalidTable, T.bound, Table({"a": A, "b": A, "y": Y}))
        self.raises(InvalidTable, T.bound, Table({"a": Factor(("high", "low"), (0,) * 4), "b": B, "y": Y}))
        one = Table({"y": Numbers((None,) * 150)})
        self.assertEqual(len(one.bound(one.picked((0,) * 50))), 200)
        self.too_many(200, one.bound, one.picked((0,) * 51))
        self.too_many(200, Table({}, total=200).bound, Table({}, total=1))
        self.raises(InvalidTable, one.bound, Table({"z": Numbers((None,) * 150)}))

    def test_complete(self):
        self.assertEqual(T.complete(()), (0, 1, 2, 3))
        self.assertEqual(T.complete(("a",)), (0, 1, 3))
        self.assertEqual(T.complete(("a", "b", "y")), (0, 1))
        self.assertEqual(Table({}).complete(()), ())


class OrderedTest(Case):
    def order(self, table, names, down=()):
        many = len(table)
        marked = table.with_column("mark", Numbers(tuple(Ratio(at) for at in range(many))))
        return [one.top for one in marked.ordered(names, down=down)["mark"].ratios]

    def test_one_column(self):
        table = Table({"y": Numbers(row("1/2 1/3") + (None,) + row("-5 1/3") + (None,))})
        self.assertEqual(self.order(table, ("y",)), [3, 1, 4, 0, 2, 5])
        self.assertEqual(self.order(table, ("y",), ("y",)), [0, 1, 4, 3, 2, 5])
        self.assertEqual(self.order(table, ()), [0, 1, 2, 3, 4, 5])
        factor = Table({"a": Factor(("z", "y", "x"), (2, 0, None, 1, 0))})
        self.assertEqual(self.order(factor, ("a",)), [1, 4, 3, 0, 2])
        self.assertEqual(self.order(factor, ("a",), ("a",)), [0, 3, 1, 4, 2])

    def test_several_columns(self):
        table = Table({"a": Factor(("u", "v"), (1, 0, 1, 0, None, 1)), "y": Numbers(row("2 3 1 3 0") + (None,))})
        self.assertEqual(self.order(table, ("a", "y")), [1, 3, 2, 0, 5, 4])
        self.assertEqual(self.order(table, ("y", "a")), [4, 2, 0, 1, 3, 5])
        self.assertEqual(self.order(table, ("a", "y"), ("y",)), [1, 3, 0, 2, 5, 4])
        self.assertEqual(self.order(table, ("a", "y"), ("a",)), [2, 0, 5, 1, 3, 4])
        self.assertEqual(self.order(table, ("a", "y"), ("y", "a")), [0, 2, 5, 1, 3, 4])

    def test_one_value_alone(self):
        self.assertEqual(self.order(Table({"y": Numbers((None, Ratio(3), None))}), ("y",)), [1, 0, 2])
        self.assertEqual(self.order(Table({"a": Factor(LEVELS, (None, 2))}), ("a",), ("a",)), [1, 0])
        self.assertEqual(self.order(Table({"y": Numbers((None, None))}), ("y",)), [0, 1])

    def test_the_table_stays(self):
        table = Table({"y": Numbers(row("2 1"))})
        self.assertEqual(table.ordered(("y",)).total, 2)
        self.assertEqual(table["y"].ratios, row("2 1"))
        self.assertEqual(Table({}, total=3).ordered(()), Table({}, total=3))

    def test_long_and_near_ratios(self):
        near = [r("9" * 1999).over(r("9" * 1998 + "8")), r("9" * 1998 + "8").over(r("9" * 1998 + "7")), Ratio(1)]
        table = Table({"y": Numbers(tuple(near))})
        self.assertEqual(self.order(table, ("y",)), sorted(range(3), key=lambda at: fraction(near[at])))

    def test_on_random_columns(self):
        rng = random.Random(1)
        values = [Ratio(rng.randint(-9, 9), rng.randint(1, 9)) for _ in range(100)]
        table = Table({"y": Numbers(tuple(values))})
        self.assertEqual(self.order(table, ("y",)), sorted(range(100), key=lambda at: fraction(values[at])))
        self.assertEqual(self.order(table, ("y",), ("y",)), sorted(range(100), key=lambda at: -fraction(values[at])))

    def test_down_that_is_wrong(self):
        for value in (("a", "a"), ("c",), ("y",), ["a"], "a", None, 0, (0,), ({},), True, ("a", None)):
            self.raises(InvalidOperation, T.ordered, ("a", "b"), down=value)
        self.unknown("c", T.ordered, ("c",), down=7)
        self.raises(InvalidOperation, T.ordered, "a", down=7)


class CellsTest(Case):
    def test_cells(self):
        self.assertEqual(list(T.cells(("a", "b")).items()), [((0, 2), 1), ((1, 0), 1)])
        self.assertEqual(list(T.cells(("b", "a")).items()), [((0, 1), 1), ((2, 0), 1)])
        self.assertEqual(list(T.cells(("b",)).items()), [((0,), 2), ((2,), 1)])
        self.assertEqual(
            list(T.cells(("a", "b"), full=True).items()),
            [((0, 0), 0), ((0, 1), 0), ((0, 2), 1), ((1, 0), 1), ((1, 1), 0), ((1, 2), 0)],
        )
        self.assertEqual((T.cells(()), T.cells((), full=True)), ({(): 4}, {(): 4}))
        self.assertEqual((Table({}).cells(()), Table({}).cells((), full=True)), ({}, {(): 0}))

    def test_many_cells(self):
        levels = tuple(f"l{at}" for at in range(8))
        columns = {name: Factor(levels, (1, None)) for name in "abcd"}
        self.assertEqual(len(Table(columns).cells(("a", "b", "c", "d"), full=True)), 4096)
        columns["e"] = Factor(("x", "y"), (0, 1))
        table = Table(columns)
        self.too_many(4096, table.cells, ("a", "b", "c", "d", "e"), full=True)
        self.assertEqual(table.cells(("a", "b", "c", "d", "e")), {(1, 1, 1, 1, 0): 1})
        self.assertEqual(list(table.cells(("a", "b"), full=True)), list(itertools.product(range(8), repeat=2)))

    def test_what_is_wrong(self):
        self.raises(InvalidOperation, T.cells, ("y",))
        self.raises(InvalidOperation, T.cells, ("a", "y"), full=True)
        for value in (1, 0, None, "", (), Ratio(1), [True]):
            self.raises(InvalidOperation, T.cells, ("a",), full=value)
        self.unknown("c", T.cells, ("y", "c"), full=7)
