"""The examples of the document, word for word."""

from tests.support import Case
from worthstead.code.making import compiled
from worthstead.desk.kept import KeptFit
from worthstead.errors import ParseError
from worthstead.exact.ratios import Ratio
from worthstead.exact.rows import base_of, is_summed, rank_of, summed, sums_of
from worthstead.exact.spaces import Space
from worthstead.fits.fits import Fit
from worthstead.fits.strata import Strata
from worthstead.formulas.counts import count_of
from worthstead.formulas.reader import read_formula
from worthstead.formulas.shadows import is_alike, joint, parted, plain, shadow_of
from worthstead.lang.reader import read_program
from worthstead.lang.runs import outcome
from worthstead.models.cells import joined_parts, way_between
from worthstead.models.leading import leading
from worthstead.models.models import Model
from worthstead.models.told import hanging, told
from worthstead.plans.blocks import Blocked
from worthstead.plans.making import count_right, least, least_with, struck
from worthstead.plans.plans import Plan
from worthstead.tables.columns import Factor, Numbers
from worthstead.tables.tables import Table
from worthstead.tables.texts import write_table
from worthstead.trials.relabelings import Relabelings

NAMES = {
    one.__name__: one
    for one in (
        Ratio, base_of, is_summed, rank_of, summed, sums_of, Space, count_of, read_formula, is_alike, joint, parted,
        plain, shadow_of, Factor, Numbers, Table, write_table, Model, leading, told, hanging, joined_parts, way_between,
        Fit, Strata, Plan, struck, least, least_with, count_right, Blocked, Relabelings, read_program, outcome, compiled,
        KeptFit,
    )
}

RATIOS = '''
>>> [str(Ratio(6, -4)), str(Ratio(0, -7)), str(Ratio(1, 2) + Ratio(1, 3)), str(Ratio(2, 3).over(Ratio(-4, 9))), str(abs(Ratio(-1, 2))), str(-Ratio(5))]
['-3/2', '0', '5/6', '-3/2', '1/2', '-5']
>>> [Ratio(1, 3).is_less(Ratio(2, 5)), bool(Ratio(0)), Ratio(1) == 1, Ratio(2, 4) == Ratio(1, 2), Ratio(6, -4).top, Ratio(6, -4).bottom]
[True, False, False, True, -3, 2]
>>> Ratio.of_text("3/06")
raises ParseError(2)
>>> Ratio.of_text("6/4")
raises ParseError(2)
'''

SPACES = '''
>>> R = Ratio
>>> rows = ((R(1), R(0), R(2)), (R(2), R(0), R(4)), (R(0), R(1), R(1)), (R(1), R(2), R(4)))
>>> [rank_of(rows), base_of(rows), [[str(one) for one in row] for row in sums_of(rows).values()]]
[2, (0, 2), [['2', '0'], ['1', '2']]]
>>> [str(one) for one in summed(rows, (R(3), R(1), R(7)))[1]]
['3', '0', '1', '0']
>>> word, row = summed(rows, (R(0), R(0), R(1)))
>>> [word, [str(one) for one in row], is_summed(rows, (R(3), R(1), R(7)), ("sum", (R(1), R(1), R(1), R(0))))]
['apart', ['-2', '-1', '1'], True]
>>> plane = Space(3, rows)
>>> [[[str(one) for one in row] for row in plane], len(plane & Space.ones(3)), (R(1), R(2), R(4)) in plane, plane.is_within(Space.whole(3))]
[[['1', '0', '2'], ['0', '1', '1']], 0, True, True]
'''

TABLES = r'''
>>> T = Table({"a": Factor.of_names(("low", "high"), ("low", "high", None)), "y": Numbers((Ratio(1), Ratio(1, 2), None))})
>>> [write_table(T), T.complete(("a",)), T.cells(("a",)), T.ordered(("y",))["a"].codes, T.ordered(("y",), down=("y",))["a"].codes]
['rows 3\nfactor a low,high low high ?\nnumber y 1 1/2 ?\n', (0, 1), {(0,): 1, (1,): 1}, (1, 0, None), (0, 1, None)]
'''

FORMULAS = '''
>>> [str(read_formula(text)) for text in ("y ~ a*b - a", "x / (a + b)^2", "0 + b in a", "a - a + 1", "a - 1 - a")]
['y ~ b + a:b', 'x + a:x + b:x + a:b:x', '0 + a:b', '1', '0']
'''

SHADOWS = '''
>>> kinds = {"a": "factor", "b": "factor", "x": "number"}
>>> one, other, third = read_formula("y ~ a * b"), read_formula("y ~ a + b"), read_formula("0 + a:x")
>>> [str(count_of(one, kinds)), str(count_of(other, kinds)), count_of(other, kinds)({"a": 3, "b": 4}), shadow_of(third, kinds)]
['a*b', 'a + b - 1', 6, ((('x',), ()), (('x',), ('a',)))]
>>> [str(plain(one, kinds)), is_alike(read_formula("0 + a"), read_formula("a"), kinds), str(joint(other, third, kinds))]
['y ~ 0 + a:b', True, 'y ~ 0 + a + b + a:x']
>>> parted(read_formula("1"), read_formula("x"), kinds)
('parted', 'other', (('x',), ()), ({'x': 0}, {'x': 1}), (-1, 1))
'''

MODELS = '''
>>> NUMBERS = Numbers((Ratio(2), Ratio(3), Ratio(5)))
>>> TABLE = Table({"a": Factor(("x", "y"), (0, 1, 1)), "b": Factor(("u", "v", "w"), (2, 0, None)), "n": NUMBERS})
>>> model = Model(TABLE, read_formula("1 + a:n + b"), codings={"b": "steps"})
>>> [model.kept, model.names, str(model), model.codings]
[(0, 1), ((), (('b', 1),), (('b', 2),), (('n', None),), (('a', 1), ('n', None))), 'model of 2 rows, 5 columns', {'a': 'first', 'b': 'steps'}]
>>> [[[str(one) for one in row] for row in side] for side in leading(Model(TABLE, read_formula("a")), {"a": "sum"})]
[[['1', '1/2'], ['0', '-1/2']], [['1', '0'], ['1', '-2']]]
'''

TOLD = '''
>>> TABLE = Table({"a": Factor(("x", "y"), (0, 1, 1)), "b": Factor(("u", "v", "w"), (0, 0, 1))})
>>> model = Model(TABLE, read_formula("a + b"))
>>> ZERO, ONE = Ratio(0), Ratio(1)
>>> told(model, (ZERO, ZERO, ONE, ZERO)) == ("told", (ZERO, Ratio(-1), ONE))
True
>>> told(model, (ZERO, ZERO, ZERO, ONE)) == ("free", (ZERO, ZERO, ZERO, ONE))
True
>>> [hanging(model) == {3: (ZERO, ZERO, ZERO)}, joined_parts(TABLE, "a", "b"), way_between(TABLE, "a", "b", 0, 1), way_between(TABLE, "a", "b", 0, 2)]
[True, (((0, 1), (0, 1)),), (1, 2), None]
'''

FITS = '''
>>> rows = {"a": Factor(("p", "q"), (0, 0, 1)), "b": Factor(("r", "s"), (0, 1, 1)), "y": Numbers((Ratio(1), Ratio(3), Ratio(5)))}
>>> fit = Fit(Model(Table(rows), read_formula("y ~ a")))
>>> [[str(one) for one in part] for part in (fit.weights, fit.fitted, fit.rests, (fit.total, fit.left), fit.sums())]
[['2', '3'], ['2', '2', '5'], ['-1', '1', '0'], ['35', '2'], ['27', '6', '2']]
>>> both = Model(Table(rows), read_formula("y ~ a + b"))
>>> [[str(one) for one in part] for part in (Fit(both).sums(), Fit(both).sums(order=((), ("b",), ("a",))), Fit(both).behind_sums())]
[['27', '6', '2', '0'], ['27', '6', '2', '0'], ['27', '2', '2', '0']]
'''

STRATA = '''
>>> table = Table({"a": Factor(("l", "h"), (0, 0, 1, 1)), "b": Factor(("l", "h"), (0, 1, 0, 1)), "c": Factor(("p", "q", "r"), (0, 1, 1, 2))})
>>> strata = Strata(Model(table, read_formula("a * b")), ("c",))
>>> [[len(space) for space in strata.spaces], [[str(f) for word, f in strata.share(term)] for term in ((), ("a",), ("b",), ("a", "b"))]]
[[1, 2, 1], [['1', '0', '0'], ['0', '1/2', '1/2'], ['0', '1/2', '1/2'], ['0', '1', '0']]]
>>> [strata.balanced()[:4], strata.is_unbalanced(("parts", ("a",), ("b",), 2, (Ratio(1), Ratio(1), Ratio(-1), Ratio(-1)), (Ratio(1), Ratio(-1), Ratio(1), Ratio(-1))))]
[('parts', ('a',), ('b',), 1), True]
'''

PLANS = '''
>>> HALF = Plan(2, ("a", "b", "c"), (((1, 1, 1), 0),))
>>> [HALF.runs, HALF.constants(), HALF.strength(), HALF.lengths(), HALF.distances()]
[((0, 0, 0), (0, 1, 1), (1, 0, 1), (1, 1, 0)), ((1, 1, 1),), 2, (1, 0, 0, 1), (1, 0, 3, 0)]
>>> [HALF.alias_sets(), HALF.spread(("a", "b")), HALF.spread(("a", "b", "c"))]
[(((0, 0, 1), (1, 1, 0)), ((0, 1, 0), (1, 0, 1)), ((0, 1, 1), (1, 0, 0))), ('even', 1), ('uneven', (1, 1, 1))]
>>> [HALF.moved((1, 0, 0), (0, 1, 1)), Plan(2, ("a", "b", "c"), (((1, 1, 1), 1),)).moved((1, 0, 0), (0, 1, 1)), HALF.told_alone(("a",), (("b", "c"),)), HALF.told_alone(("a",), (("b",),))]
[(1, 0), (1, 1), ('met', (1, 0, 0), (0, 1, 1)), ('alone',)]
'''

MAKING = '''
>>> MAINS = ((1, 0, 0), (0, 1, 0), (0, 0, 1))
>>> [struck(2, 3, MAINS), least(2, ("a", "b", "c"), MAINS).rows, least_with(2, ("a", "b", "c"), MAINS, 2), count_right(2, ("a", "b", "c"), MAINS, 1)]
[((0, 0, 1), (0, 1, 0), (0, 1, 1), (1, 0, 0), (1, 0, 1), (1, 1, 0)), (((1, 1, 1), 0),), None, 1]
'''

BLOCKS = r'''
>>> eight = Blocked(Plan(2, ("a", "b", "c"), ()), ((1, 1, 1),))
>>> [eight.blocks, eight.is_lost((1, 1, 1)), eight.is_kept((1, 1, 0)), eight.lost(), str(eight)]
[(0, 1, 1, 0, 1, 0, 0, 1), True, True, ((1, 1, 1),), '8 runs in 2 blocks']
'''

TRIALS = r'''
>>> trial = Relabelings(("a", "b", "a", "b"), (0, 0, 1, 1))
>>> values = (Ratio(1), Ratio(2), Ratio(3), Ratio(5))
>>> [(str(one), number) for one, number in trial.counts(values, "a")]
[('4', 1), ('5', 1), ('6', 1), ('7', 1)]
>>> [str(trial.told_share(values, "a", way)) for way in ("high", "low", "far")], [str(one) for one in trial.moments(values, "a")]
(['1', '1/4', '1/2'], ['11/2', '5/4'])
'''

RUNS = r'''
>>> outcome(read_program('f <- fun(x, y = x + 1) { x <- 5; y }\nprint(f({ print("a"); 2 }))\ntry(1 / 0, fun(w, t) w)'))
(('done', 'zero'), ('6',), 22)
'''

CODES = r'''
>>> CODE = compiled(read_program("a <- 2 + 3\nf <- fun(x, y = x) x * a\nf(y = 1, 7 - a)"))
>>> [CODE[0].slots, CODE[0].rows[2:6], CODE[1].slots, CODE[1].params, CODE[1].rows]
[('a', 'f'), (('set', 0), ('drop',), ('statement', 1), ('function', 1)), ('x', 'y'), (('x', None), ('y', 2)), (('slot', 0), ('name', 'a'), ('operator', '*', 2), ('end',))]
'''

KEPT = r'''
>>> DATA = Table({"a": Factor(("lo", "hi"), (0, 1)), "y": Numbers((Ratio(1), Ratio(3)))})
>>> kept = KeptFit(DATA, read_formula("y ~ a"))
>>> [kept.put({"a": 1, "y": Ratio(5)}), kept.numbers, [(name, str(one), str(other)) for name, one, other in kept.changes]]
[2, (0, 1, 2), [((('a', 1),), '2', '3')]]
'''


class DocumentTest(Case):
    def run_examples(self, block):
        names = dict(NAMES)
        lines = block.strip("\n").split("\n")
        for line, answer in zip(lines, lines[1:] + [">>> "]):
            if not line.startswith(">>> "):
                continue
            if answer.startswith(">>> "):
                exec(line[4:], names)
            elif answer.startswith("raises ParseError("):
                with self.assertRaises(ParseError) as caught:
                    eval(line[4:], names)
                self.assertEqual(f"raises ParseError({caught.exception.spot!r})", answer)
            else:
                self.assertEqual(repr(eval(line[4:], names)), answer)

    def test_ratios(self):
        self.run_examples(RATIOS)

    def test_rows_and_spaces(self):
        self.run_examples(SPACES)

    def test_tables(self):
        self.run_examples(TABLES)

    def test_formulas(self):
        self.run_examples(FORMULAS)

    def test_shadows(self):
        self.run_examples(SHADOWS)

    def test_models(self):
        self.run_examples(MODELS)

    def test_told(self):
        self.run_examples(TOLD)

    def test_fits(self):
        self.run_examples(FITS)

    def test_strata(self):
        self.run_examples(STRATA)

    def test_plans(self):
        self.run_examples(PLANS)

    def test_making(self):
        self.run_examples(MAKING)

    def test_blocks(self):
        self.run_examples(BLOCKS)

    def test_trials(self):
        self.run_examples(TRIALS)

    def test_runs(self):
        self.run_examples(RUNS)

    def test_codes(self):
        self.run_examples(CODES)

    def test_kept_fits(self):
        self.run_examples(KEPT)
