"""[3.5]: the texts of tables."""

import random

from tests.support import Case, long_ratio, wrong_values
from worthstead.errors import InvalidTable, ParseError
from worthstead.exact.ratios import Ratio
from worthstead.tables.columns import Factor, Numbers
from worthstead.tables.tables import Table
from worthstead.tables.texts import read_table, write_table

RIGHT = (
    "rows 0\n", "rows 200\n", "rows 7\n", "rows 0\nfactor a x,y\n", "rows 0\nnumber a\n", "rows 1\nfactor a x,y ?\n",
    "rows 2\nfactor a y,x y x\nnumber b -1/2 ?\n", "rows 0\nfactor a 1,0\nfactor aa x,y,z\nnumber ab\nnumber b\n",
    "rows 1\nnumber factor 0\nnumber rows ?\n", "rows 1\nfactor x factor,number number\n",
)


class TextsTest(Case):
    def test_there_and_back(self):
        for text in RIGHT:
            self.assertEqual(write_table(read_table(text)), text)
        table = read_table("rows 2\nfactor a y,x y x\nnumber b -1/2 ?\n")
        self.assertEqual(table, Table({"a": Factor(("y", "x"), (0, 1)), "b": Numbers((Ratio(-1, 2), None))}))

    def test_no_table(self):
        self.all_rejected(InvalidTable, write_table, [Table({}), Table({}, total=3)])

    def test_no_string(self):
        for value in wrong_values() + [b"rows 0\n"]:
            if not isinstance(value, str):
                self.parse(None, read_table, value)

    def test_the_first_line(self):
        for text in (
            "", "\n", "rows", "rows 3", "rows\n", "rows \n", "rows 3 \n", " rows 3\n", "rows  3\n", "Rows 3\n", "row 3\n",
            "rows 03\n", "rows -1\n", "rows 201\n", "rows 3 3\n", "rows x\n", "rows 3\t\n", "3\n", "rows 00\n", "rows +1\n",
            "factor a x,y\n", "a" * 10000, "rows 1000000000000000000000\n", "rows 3\r\n", "rows ?\n", "\nrows 3\n",
        ):
            with self.subTest(text=text[:30]):
                self.parse(0, read_table, text)

    def test_later_lines(self):
        for lines in (
            "", "factor", "number", "factor a", "factor a x,y", "factor a x,y y x", "factor a x,y y ", "factor a  x,y y",
            " factor a x,y y", "factor a x,y  y", "factor a x y", "factor a x y y", "factor a x,x x", "factor a x,y,y x",
            "factor a x, x", "factor a ,x x", "factor a x,y z", "factor a x,y 0", "factor a x,y ??", "factor A x,y x",
            "factor in x,y x", "factor 1a x,y x", "factor abcdefghi x,y x", "factor a X,y X", "factor a x,abcdefghi x",
            "factor a 0,1,2,3,4,5,6,7,8,9,a,b,c 0", "factor a x;y x", "factor a ?,x x", "number a", "number a 1 2", "number a 2/4", "number a 01",
            "number a -0", "number a 1/1", "number a x", "number A 1", "number a 1 ", "number a  1", "number  a 1", "number a 1/0",
            "number a " + "9" * 2001, "number a 1/" + "9" * 2001, "numbers a 1", "levels a x,y x", "rows 1", "number if 1", "number a +1",
            "number a 1\t", "number a \t1", "number a ?1",
        ):
            with self.subTest(line=lines[:40]):
                self.parse(1, read_table, "rows 1\n" + lines + "\n")

    def test_names_out_of_order(self):
        for one, other in (("b", "a"), ("a", "a"), ("a1", "a"), ("b", "ab")):
            self.parse(2, read_table, f"rows 0\nnumber {one}\nnumber {other}\n")
            self.parse(2, read_table, f"rows 0\nfactor {one} x,y\nnumber {other}\nnumber z\n")

    def test_lines_too_many(self):
        lines = "".join(f"number {name}\n" for name in "abcdefghijkl")
        self.assertEqual(len(read_table("rows 0\n" + lines).names), 12)
        self.parse(13, read_table, "rows 0\n" + lines + "number m\n")
        self.parse(13, read_table, "rows 0\n" + lines + "\n")
        self.parse(13, read_table, "rows 0\n" + lines + "number m")
        self.parse(1, read_table, "rows 0\n\n")

    def test_the_last_newline_left_out(self):
        self.parse(0, read_table, "rows 0")
        self.parse(1, read_table, "rows 0\nnumber a")
        self.parse(2, read_table, "rows 0\nnumber a\nnumber b")
        self.parse(1, read_table, "rows 0\nnumber A\nnumber b")
        self.parse(1, read_table, "rows 1\n ")

    def test_the_first_wrong_line(self):
        self.parse(1, read_table, "rows 1\nnumber a 2/4\nnumber A 1\n")
        self.parse(2, read_table, "rows 1\nnumber a 2/3\nnumber b x\nnumber a 1\n")
        self.parse(0, read_table, "rows 1 \nnumber a 2/4\n")

    def test_only_newlines_end_lines(self):
        for sign in "\r\v\f\x1c\x85\u2028":
            self.parse(0, read_table, f"rows 0{sign}number a\n")
            self.parse(1, read_table, f"rows 0\nnumber a{sign}number b\n")

    def test_most_rows(self):
        values = tuple(None if at % 3 else long_ratio(2000, at + 1) for at in range(200))
        table = Table({"a": Factor(("x", "y"), (0, 1) * 100), "y": Numbers(values)})
        self.assertEqual(read_table(write_table(table)), table)

    def test_on_random_tables(self):
        rng = random.Random(1)
        for _ in range(100):
            total, columns = rng.randint(0, 4), {}
            for name in rng.sample(("a", "b", "c1", "zz", "y"), rng.randint(0, 5)):
                if rng.random() < 0.5:
                    levels = tuple(rng.sample(("x", "y", "0", "low"), rng.randint(2, 4)))
                    columns[name] = Factor.of_names(levels, tuple(rng.choice(levels + (None,)) for _ in range(total)))
                else:
                    some = (None, Ratio(0), Ratio(rng.randint(-9, 9), rng.randint(1, 9)))
                    columns[name] = Numbers(tuple(rng.choice(some) for _ in range(total)))
            table = Table(columns, total=total)
            text = write_table(table)
            self.assertEqual(read_table(text), table)
            self.assertEqual(write_table(read_table(text)), text)
            at = rng.randrange(len(text))
            near = text[:at] + rng.choice(["", " ", "x", "\n", "?", "1", ","]) + text[at + rng.randint(0, 1):]
            try:
                self.assertEqual(write_table(read_table(near)), near)
            except ParseError as error:
                self.assertLessEqual(error.spot, near.count("\n"))
