"""[3.3], [3.4]: joined and grouped tables."""

import random

from tests.support import Case, fraction, long_ratio, r, row, wrong_values
from worthstead.errors import InvalidOperation, InvalidTable
from worthstead.exact.ratios import Ratio
from worthstead.tables.columns import Factor, Numbers
from worthstead.tables.joining import WAYS, grouped, joined
from worthstead.tables.tables import Table
from worthstead.tables.texts import read_table, write_table

ONE = read_table("rows 4\nfactor a u,v u v ? v\nnumber x 1 2 3 4\n")
OTHER = read_table("rows 5\nfactor a u,v v ? v u ?\nnumber y 1/2 ? 3/2 4/3 5/2\n")
PAIRS = "factor a u,v u v v v v"
DATA = read_table(
    "rows 6\nfactor a u,v u u v ? u v\nfactor b p,q,r p q p p q ?\nnumber y 1 1/2 ? 3 3/2 7\nnumber z ? ? ? 1 2 3\n"
)


def numbers(many, name="n"):
    return {f"{name}{at}": Numbers((Ratio(at),)) for at in range(many)}


class JoinedTest(Case):
    def check(self, way, *lines):
        table = joined(ONE, OTHER, ("a",), way=way)
        self.assertEqual(write_table(table), "\n".join(lines) + "\n")

    def test_ways(self):
        self.check("pairs", "rows 5", PAIRS, "number x 1 2 2 4 4", "number y 4/3 1/2 3/2 1/2 3/2")
        self.check("left", "rows 6", PAIRS + " ?", "number x 1 2 2 4 4 3", "number y 4/3 1/2 3/2 1/2 3/2 ?")
        self.check("right", "rows 7", PAIRS + " ? ?", "number x 1 2 2 4 4 ? ?", "number y 4/3 1/2 3/2 1/2 3/2 ? 5/2")
        self.check(
            "all", "rows 8", PAIRS + " ? ? ?", "number x 1 2 2 4 4 3 ? ?", "number y 4/3 1/2 3/2 1/2 3/2 ? ? 5/2"
        )
        self.assertEqual(joined(ONE, OTHER, ("a",)), joined(ONE, OTHER, ("a",), way="pairs"))

    def test_rows_without_a_partner_keep_their_keys(self):
        one = read_table("rows 2\nfactor a u,v u u\nnumber x 1 2\n")
        other = read_table("rows 3\nfactor a u,v v v ?\nnumber y 1 2 3\n")
        self.assertEqual(len(joined(one, other, ("a",))), 0)
        self.assertEqual(
            write_table(joined(one, other, ("a",), way="all")),
            "rows 5\nfactor a u,v u u v v ?\nnumber x 1 2 ? ? ?\nnumber y ? ? 1 2 3\n",
        )

    def test_number_keys_and_several(self):
        one = read_table("rows 3\nfactor a u,v u u v\nnumber k 1/2 2 1/2\nnumber x 1 2 3\n")
        other = read_table("rows 4\nfactor a u,v u u v v\nnumber k 1/2 1/2 2 ?\nnumber y 1 2 3 4\n")
        self.assertEqual(
            write_table(joined(one, other, ("a", "k"), way="all")),
            "rows 6\nfactor a u,v u u u v v v\nnumber k 1/2 1/2 2 1/2 2 ?\nnumber x 1 1 2 3 ? ?\nnumber y 1 2 ? ? 3 4\n",
        )
        self.assertEqual(joined(one, other, ("k", "a"), way="all"), joined(one, other, ("a", "k"), way="all"))

    def test_one_lacking_value_of_several_keys(self):
        one = read_table("rows 2\nfactor a u,v u ?\nnumber k ? 1\n")
        for way, many in (("pairs", 0), ("left", 2), ("right", 2), ("all", 4)):
            self.assertEqual(len(joined(one, one, ("a", "k"), way=way)), many)

    def test_a_table_with_itself(self):
        shown = ONE.shown(("a",))
        self.assertEqual(joined(shown, shown, ("a",))["a"].codes, (0, 1, 1, 1, 1))
        self.assertEqual(len(joined(shown, shown, ("a",), way="all")), 7)
        self.raises(InvalidTable, joined, ONE, ONE, ("a",))
        self.assertEqual(len(joined(ONE, ONE, ("a", "x"))), 3)

    def test_a_ratio_is_not_an_index(self):
        one = Table({"k": Numbers(row("1 2"))})
        self.assertEqual(len(joined(one, Table({"k": Numbers(row("1 2"))}), ("k",))), 2)
        self.raises(InvalidTable, joined, one, Table({"k": Factor(("x", "y"), (1, 1))}), ("k",))

    def test_errors_in_order(self):
        wrong_other = Table({"a": Numbers((None,)), "x": Numbers((None,))})
        self.all_rejected(InvalidTable, lambda value: joined(value, 3, 3, way=3), [Table({}), Table({}, total=3)])
        self.all_rejected(InvalidTable, lambda value: joined(ONE, value, 3, way=3), [Table({}), Table({}, total=3)])
        self.all_rejected(InvalidOperation, lambda value: joined(ONE, OTHER, value, way=3), [("a",)])
        self.raises(InvalidOperation, joined, ONE, OTHER, ())
        self.raises(InvalidOperation, joined, ONE, OTHER, ("a", "a"))
        self.raises(InvalidOperation, joined, ONE, OTHER, ["a"])
        self.unknown("x", joined, ONE, OTHER, ("a", "x", "y"), way=3)
        self.unknown("y", joined, ONE, OTHER, ("y", "x"), way=3)
        self.unknown("q", joined, ONE, OTHER, ("q",))
        for value in wrong_values() + ["pair", "ALL", ("all",), "inner"]:
            self.raises(InvalidOperation, joined, ONE, wrong_other, ("a",), way=value)
        self.raises(InvalidTable, joined, ONE, wrong_other, ("a",))
        for way in WAYS:
            joined(ONE, OTHER, ("a",), way=way)

    def test_unlike_keys(self):
        for column in (Numbers((None,)), Factor(("v", "u"), (0,)), Factor(("u", "v", "w"), (0,))):
            self.raises(InvalidTable, joined, ONE, Table({"a": column}), ("a",))

    def test_twelve_columns(self):
        one, other = Table(numbers(7) | {"k": Numbers((Ratio(1),))}), Table(numbers(5, "m") | {"k": Numbers((Ratio(1),))})
        self.too_many(12, joined, one, other, ("k",))
        self.assertEqual(len(joined(one.shown(one.names[:-1]), other, ("k",)).names), 12)
        more = Table({"n1": Numbers((Ratio(1),))} | numbers(4, "m") | {"k": Numbers((Ratio(1),))})
        self.raises(InvalidTable, joined, one, more, ("k",))
        long = [Table({name: Numbers((Ratio(1),) * 20) for name in one_or_other.names}) for one_or_other in (one, other)]
        self.too_many(12, joined, long[0], long[1], ("k",))
        self.too_many(200, joined, long[0].shown(("k",)), long[1], ("k",))

    def test_two_hundred_rows(self):
        one = Table({"k": Numbers((Ratio(1),) * 20 + (None,))})
        other = Table({"k": Numbers((Ratio(1),) * 10)})
        self.assertEqual(len(joined(one, other, ("k",))), 200)
        self.too_many(200, joined, one, other, ("k",), way="left")
        self.assertEqual(len(joined(one, other, ("k",), way="right")), 200)
        self.too_many(200, joined, other, one, ("k",), way="right")
        most = Table({"k": Numbers((Ratio(1),) * 200)})
        self.too_many(200, joined, most, most, ("k",))

    def test_against_plain_loops(self):
        rng = random.Random(1)
        for _ in range(40):
            lefts = [rng.choice((0, 1, 2, None)) for _ in range(rng.randint(0, 6))]
            rights = [rng.choice((0, 1, 2, None)) for _ in range(rng.randint(0, 6))]
            levels = ("u", "v", "w")
            one = Table({"k": Factor(levels, tuple(lefts)), "x": Numbers(tuple(Ratio(at) for at in range(len(lefts))))})
            other = Table({"k": Factor(levels, tuple(rights)), "y": Numbers(tuple(Ratio(at) for at in range(len(rights))))})
            pairs = [(a, b) for a, u in enumerate(lefts) for b, v in enumerate(rights) if u is not None and u == v]
            alone = [(a, None) for a in range(len(lefts)) if a not in [pair[0] for pair in pairs]]
            others = [(None, b) for b in range(len(rights)) if b not in [pair[1] for pair in pairs]]
            for way, right in (
                ("pairs", pairs), ("left", pairs + alone), ("right", pairs + others), ("all", pairs + alone + others),
            ):
                table = joined(one, other, ("k",), way=way)
                found = [
                    (None if a is None else a.top, None if b is None else b.top)
                    for a, b in zip(table["x"].ratios, table["y"].ratios)
                ]
                self.assertEqual(found, right)
                keys = [lefts[a] if a is not None else rights[b] for a, b in right]
                self.assertEqual(list(table["k"].codes), keys)


class GroupedTest(Case):
    def test_each_word(self):
        what = {
            "rows": ("count", None), "many": ("count", "y"), "named": ("count", "b"), "most": ("greatest", "y"),
            "few": ("least", "y"), "middle": ("mean", "y"), "whole": ("sum", "y"),
        }
        self.assertEqual(
            write_table(grouped(DATA, ("a",), what)),
            "rows 2\nfactor a u,v u v\nnumber few 1/2 7\nnumber many 3 1\nnumber middle 1 7\nnumber most 3/2 7\n"
            "number named 3 1\nnumber rows 3 2\nnumber whole 3 7\n",
        )

    def test_cells_without_rows_or_values(self):
        what = {"m": ("mean", "z"), "l": ("least", "z"), "g": ("greatest", "z"), "s": ("sum", "z"), "c": ("count", "z")}
        self.assertEqual(
            write_table(grouped(DATA, ("b", "a"), what | {"n": ("count", None)})),
            "rows 6\nfactor a u,v u v u v u v\nfactor b p,q,r p p q q r r\nnumber c 0 0 1 0 0 0\nnumber g ? ? 2 ? ? ?\n"
            "number l ? ? 2 ? ? ?\nnumber m ? ? 2 ? ? ?\nnumber n 1 1 2 0 0 0\nnumber s 0 0 2 0 0 0\n",
        )

    def test_no_keys(self):
        self.assertEqual(
            write_table(grouped(DATA, (), {"n": ("count", None), "s": ("sum", "y"), "m": ("mean", "z")})),
            "rows 1\nnumber m 2\nnumber n 6\nnumber s 13\n",
        )
        self.assertEqual(grouped(Table({}), (), {}), Table({}, total=1))
        self.assertEqual(write_table(grouped(Table({}), (), {"n": ("count", None)})), "rows 1\nnumber n 0\n")
        self.assertEqual(grouped(DATA, ("a",), {})["a"].codes, (0, 1))

    def test_a_column_may_have_the_name_of_another_one(self):
        self.assertEqual(grouped(DATA, ("a",), {"y": ("sum", "y"), "b": ("count", "a")})["b"].ratios, row("3 2"))

    def test_errors_in_order(self):
        self.all_rejected(InvalidTable, lambda value: grouped(value, 3, 3), [Table({}), Table({}, total=3)])
        self.all_rejected(InvalidOperation, lambda value: grouped(DATA, value, 3))
        self.unknown("c", grouped, DATA, ("a", "y", "c"), 3)
        self.raises(InvalidOperation, grouped, DATA, ("a", "y"), {"n": ("count", "q")})
        self.all_rejected(InvalidOperation, lambda value: grouped(DATA, ("a",), value), [{}])
        for what in (
            {"a": ("count", None)}, {"N": ("count", None)}, {"n": ("sum", None)}, {"n": ("mean", None)},
            {"n": ("counts", "y")}, {"n": ("count",)}, {"n": ("count", "y", "z")}, {"n": ["count", "y"]}, {"n": ("count", 1)},
            {"n": ("count", "Y")}, {"n": (None, "y")}, {1: ("count", None)}, {"n": "count"}, {"n": (("count",), "y")},
            {"n": ("sum", "q"), "m": ("sum", "in")},
        ):
            self.raises(InvalidOperation, grouped, DATA, ("a",), what)
        self.unknown("q", grouped, DATA, ("a",), {"z": ("sum", "p"), "n": ("count", "q"), "m": ("sum", "b")})
        self.unknown("q", grouped, DATA, ("a",), {"n": ("sum", "b"), "o": ("count", "q")})
        self.raises(InvalidOperation, grouped, DATA, ("a",), {"n": ("sum", "b")})
        for word in ("greatest", "least", "mean", "sum"):
            self.raises(InvalidOperation, grouped, DATA, (), {"n": (word, "a")})

    def test_twelve_columns(self):
        what = {f"n{at}": ("count", None) for at in range(11)}
        self.assertEqual(len(grouped(DATA, ("a",), what).names), 12)
        self.too_many(12, grouped, DATA, ("a", "b"), what)
        self.raises(InvalidOperation, grouped, DATA, ("a", "b"), what | {"m": ("sum", "b")})

    def test_two_hundred_rows(self):
        ten, two = tuple(f"l{at}" for at in range(10)), ("x", "y")
        columns = {"a": Factor(ten, ()), "b": Factor(ten, ()), "c": Factor(two, ()), "d": Factor(two, ())}
        self.assertEqual(len(grouped(Table(columns), ("a", "b", "c"), {})), 200)
        self.too_many(200, grouped, Table(columns), ("a", "b", "c", "d"), {})
        self.too_many(12, grouped, Table(columns), ("a", "b", "c", "d"), {f"n{at}": ("count", None) for at in range(9)})

    def test_long_results(self):
        table = Table({"y": Numbers((long_ratio(2000, 1999), long_ratio(2000, 1997)))})
        for word in ("sum", "mean"):
            self.too_many(2000, grouped, table, (), {"n": (word, "y")})
        for word, pick in (("least", min), ("greatest", max)):
            found = grouped(table, (), {"n": (word, "y")})["n"].ratios[0]
            self.assertEqual(fraction(found), pick(fraction(one) for one in table["y"].ratios))
        self.assertEqual(grouped(Table({"y": Numbers((r("9" * 2000),))}), (), {"n": ("sum", "y")})["n"].ratios, (r("9" * 2000),))
