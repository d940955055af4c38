"""The examples of the document, word for word."""

from tests.support import Case
from worthstead.errors import ParseError
from worthstead.exact.ratios import Ratio
from worthstead.exact.rows import base_of, is_summed, rank_of, summed, sums_of
from worthstead.exact.spaces import Space
from worthstead.formulas.counts import count_of
from worthstead.formulas.reader import read_formula
from worthstead.formulas.shadows import is_alike, joint, parted, plain, shadow_of
from worthstead.tables.columns import Factor, Numbers
from worthstead.tables.tables import Table
from worthstead.tables.texts import write_table

NAMES = {
    one.__name__: one
    for one in (
        Ratio, base_of, is_summed, rank_of, summed, sums_of, Space, count_of, read_formula, is_alike, joint, parted,
        plain, shadow_of, Factor, Numbers, Table, write_table,
    )
}

RATIOS = '''
>>> [str(Ratio(6, -4)), str(Ratio(0, -7)), str(Ratio(1, 2) + Ratio(1, 3)), str(Ratio(2, 3).over(Ratio(-4, 9))), str(abs(Ratio(-1, 2))), str(-Ratio(5))]
['-3/2', '0', '5/6', '-3/2', '1/2', '-5']
>>> [Ratio(1, 3).is_less(Ratio(2, 5)), bool(Ratio(0)), Ratio(1) == 1, Ratio(2, 4) == Ratio(1, 2), Ratio(6, -4).top, Ratio(6, -4).bottom]
[True, False, False, True, -3, 2]
>>> Ratio.of_text("3/06")
raises ParseError(2)
>>> Ratio.of_text("6/4")
raises ParseError(2)
'''

SPACES = '''
>>> R = Ratio
>>> rows = ((R(1), R(0), R(2)), (R(2), R(0), R(4)), (R(0), R(1), R(1)), (R(1), R(2), R(4)))
>>> [rank_of(rows), base_of(rows), [[str(one) for one in row] for row in sums_of(rows).values()]]
[2, (0, 2), [['2', '0'], ['1', '2']]]
>>> [str(one) for one in summed(rows, (R(3), R(1), R(7)))[1]]
['3', '0', '1', '0']
>>> word, row = summed(rows, (R(0), R(0), R(1)))
>>> [word, [str(one) for one in row], is_summed(rows, (R(3), R(1), R(7)), ("sum", (R(1), R(1), R(1), R(0))))]
['apart', ['-2', '-1', '1'], True]
>>> plane = Space(3, rows)
>>> [[[str(one) for one in row] for row in plane], len(plane & Space.ones(3)), (R(1), R(2), R(4)) in plane, plane.is_within(Space.whole(3))]
[[['1', '0', '2'], ['0', '1', '1']], 0, True, True]
'''

TABLES = r'''
>>> T = Table({"a": Factor.of_names(("low", "high"), ("low", "high", None)), "y": Numbers((Ratio(1), Ratio(1, 2), None))})
>>> [write_table(T), T.complete(("a",)), T.cells(("a",)), T.ordered(("y",))["a"].codes, T.ordered(("y",), down=("y",))["a"].codes]
['rows 3\nfactor a low,high low high ?\nnumber y 1 1/2 ?\n', (0, 1), {(0,): 1, (1,): 1}, (1, 0, None), (0, 1, None)]
'''

FORMULAS = '''
>>> [str(read_formula(text)) for text in ("y ~ a*b - a", "x / (a + b)^2", "0 + b in a", "a - a + 1", "a - 1 - a")]
['y ~ b + a:b', 'x + a:x + b:x + a:b:x', '0 + a:b', '1', '0']
'''

SHADOWS = '''
>>> kinds = {"a": "factor", "b": "factor", "x": "number"}
>>> one, other, third = read_formula("y ~ a * b"), read_formula("y ~ a + b"), read_formula("0 + a:x")
>>> [str(count_of(one, kinds)), str(count_of(other, kinds)), count_of(other, kinds)({"a": 3, "b": 4}), shadow_of(third, kinds)]
['a*b', 'a + b - 1', 6, ((('x',), ()), (('x',), ('a',)))]
>>> [str(plain(one, kinds)), is_alike(read_formula("0 + a"), read_formula("a"), kinds), str(joint(other, third, kinds))]
['y ~ 0 + a:b', True, 'y ~ 0 + a + b + a:x']
>>> parted(read_formula("1"), read_formula("x"), kinds)
('parted', 'other', (('x',), ()), ({'x': 0}, {'x': 1}), (-1, 1))
'''


class DocumentTest(Case):
    def run_examples(self, block):
        names = dict(NAMES)
        lines = block.strip("\n").split("\n")
        for line, answer in zip(lines, lines[1:] + [">>> "]):
            if not line.startswith(">>> "):
                continue
            if answer.startswith(">>> "):
                exec(line[4:], names)
            elif answer.startswith("raises ParseError("):
                with self.assertRaises(ParseError) as caught:
                    eval(line[4:], names)
                self.assertEqual(f"raises ParseError({caught.exception.spot!r})", answer)
            else:
                self.assertEqual(repr(eval(line[4:], names)), answer)

    def test_ratios(self):
        self.run_examples(RATIOS)

    def test_rows_and_spaces(self):
        self.run_examples(SPACES)

    def test_tables(self):
        self.run_examples(TABLES)

    def test_formulas(self):
        self.run_examples(FORMULAS)

    def test_shadows(self):
        self.run_examples(SHADOWS)
