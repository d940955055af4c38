"""The rules of the language, told once more: trees are reckoned by calls within calls, not row by row."""

import sys

from worthstead import errors
from worthstead.exact.ratios import Ratio
from worthstead.fits.fits import Fit
from worthstead.formulas.counts import count_of
from worthstead.formulas.formulas import Formula
from worthstead.formulas.reader import read_formula
from worthstead.formulas.shadows import is_alike
from worthstead.lang.writer import write_expression
from worthstead.models.models import Model
from worthstead.plans.plans import Plan
from worthstead.tables.columns import Numbers
from worthstead.tables.tables import Table
from worthstead.tables.texts import read_table

sys.setrecursionlimit(100000)
COUNTS = dict(
    table=1, formula=1, plan=3, runs=1, put=3, rows=1, model=2, columns=1, rank=1, fit=1, left=1, adds=2, alike=3, count=2,
    show=1, print=1,
)
KEPT = {"ParseError": "spot", "InvalidNumber": "given", "UnknownName": "wanted", "TooMany": "limit", "Refused": "reason"}


class Fault(Exception):
    pass


class Limit(Exception):
    pass


class Place:
    def __init__(self, around, data=None):
        self.around = around
        self.data = data
        self.put = {}
        self.params = {}


class Argument:
    def __init__(self, tree, place):
        self.tree = tree
        self.place = place
        self.state = "unasked"
        self.value = None


class Function:
    def __init__(self, tree, place):
        self.tree = tree
        self.place = place


class Package:
    def __init__(self, name):
        self.name = name


def kind(value):
    for word, types in dict(
        truth=bool, gone=type(None), ratio=Ratio, text=str, formula=Formula, table=Table, plan=Plan, model=Model, fit=Fit
    ).items():
        if isinstance(value, types):
            return word
    return "function"


def need(condition, word="kind", text=""):
    if not condition:
        raise Fault(word, text)


def text_of(value):
    if isinstance(value, bool):
        return "TRUE" if value else "FALSE"
    if value is None:
        return "GONE"
    if isinstance(value, Function):
        return write_expression(value.tree)
    if isinstance(value, Package):
        return value.name
    if isinstance(value, Model):
        return f"model of {len(value.names)} columns"
    if isinstance(value, Fit):
        return f"fit of {len(value.model.names)} columns"
    return str(value)


def short(text):
    need(len(text) <= 400, "great")
    return text


def guarded(action):
    try:
        return action()
    except ZeroDivisionError:
        raise Fault("zero", "") from None
    except (errors.WorthError, errors.InvalidNumber, errors.UnknownName, errors.TooMany, errors.Refused) as e:
        kept = getattr(e, KEPT.get(type(e).__name__, ""), "")
        plain = isinstance(kept, str) or (isinstance(kept, int) and not isinstance(kept, bool))
        raise Fault(type(e).__name__, str(kept) if plain else "") from None


def written(tree):
    # The trees that a try makes can have what no program has in a string.
    return f'"{tree[1]}"' if tree[0] == "string" else write_expression(tree)


class Slow:
    def __init__(self, program):
        self.program = program
        self.lines = []
        self.steps = 0
        self.open = 0
        self.top = Place(None)
        self.at = 0
        self.end = None
        self.value = None

    def go(self, many=None):
        while self.end is None and self.at < len(self.program) and (many is None or many > 0):
            many = None if many is None else many - 1
            try:
                self.value = self.statement(self.program[self.at], self.top)
                self.at += 1
            except Fault as fault:
                self.end = ("fault", *fault.args, self.at)
            except Limit as limit:
                self.end = ("limit", *limit.args)
        if self.end is None and self.at == len(self.program):
            self.end = ("done", text_of(self.value))
        return self

    def opened(self, action):
        if self.open == 150:
            raise Limit("depth")
        self.open += 1
        try:
            return action()
        finally:
            self.open -= 1

    def step(self, many):
        if self.steps + many > 5000:
            raise Limit("steps")
        self.steps += many

    def statement(self, node, place):
        if node[0] != "set":
            return self.tree(node, place)
        value = self.tree(node[2], place)
        place.put[node[1]] = value
        return value

    def nearest(self, name, place):
        while place is not None:
            if name in place.put or name in place.params or (place.data is not None and name in place.data):
                return place
            place = place.around
        return None

    def name(self, name, place):
        found = self.nearest(name, place)
        if found is None:
            need(name in COUNTS, "unknown", name)
            return Package(name)
        if name in found.put:
            return found.put[name]
        if name in found.params:
            return self.ask(name, found.params[name])
        return found.data.shown((name,))

    def ask(self, name, argument):
        need(argument is not None, "lacking", name)
        need(argument.state != "asked", "circle", name)
        if argument.state == "unasked":

            def action():
                argument.state = "asked"
                try:
                    value = self.tree(argument.tree, argument.place)
                except Fault:
                    argument.state = "unasked"
                    raise
                argument.state = "known"
                argument.value = value

            self.opened(action)
        return argument.value

    def tree(self, tree, place):
        return getattr(self, "do_" + tree[0])(tree, place)

    def do_number(self, tree, place):
        return Ratio(tree[1])

    def do_string(self, tree, place):
        return tree[1]

    do_truth = do_string

    def do_gone(self, tree, place):
        return None

    def do_formula(self, tree, place):
        return read_formula(tree[1])

    def do_name(self, tree, place):
        return self.name(tree[1], place)

    def do_fun(self, tree, place):
        return Function(tree, place)

    def do_block(self, tree, place):
        value = None
        for statement in tree[1]:
            value = self.statement(statement, place)
        return value

    def do_if(self, tree, place):
        holds = self.tree(tree[1], place)
        need(isinstance(holds, bool), "truth")
        return self.tree(tree[2] if holds else tree[3], place)

    def do_with(self, tree, place):
        table = self.tree(tree[1], place)
        need(kind(table) == "table")
        return self.opened(lambda: self.tree(tree[2], Place(place, table)))

    def do_pick(self, tree, place):
        table = self.tree(tree[1], place)
        need(kind(table) == "table")
        need(tree[2] in table, "unknown", tree[2])
        return table.shown((tree[2],))

    def do_stop(self, tree, place):
        text = self.tree(tree[1], place)
        need(kind(text) == "text")
        raise Fault("stop", text)

    def do_text(self, tree, place):
        name = tree[1]
        found = self.nearest(name, place)
        need(found is not None and name not in found.put and name in found.params, "text", name)
        need(found.params[name] is not None, "lacking", name)
        return short(written(found.params[name].tree))

    def do_try(self, tree, place):
        try:
            return self.opened(lambda: self.tree(tree[1], place))
        except Fault as fault:
            word, text = fault.args
        function = self.tree(tree[2], place)
        return self.call(function, ((None, ("string", word)), (None, ("string", text))), place)

    def do_op(self, tree, place):
        values = [self.tree(part, place) for part in tree[2:]]
        kinds = [kind(value) for value in values]
        sign = tree[1]
        if sign == "==":
            need(not set(kinds) & {"function", "model", "fit"})
            return kinds[0] == kinds[1] and values[0] == values[1]
        if sign in "&|!":
            need(set(kinds) == {"truth"})
            return not values[0] if sign == "!" else all(values) if sign == "&" else any(values)
        if sign == "+" and kinds == ["text", "text"]:
            return short(values[0] + values[1])
        need(set(kinds) == {"ratio"})
        if len(values) == 1:
            return -values[0]
        one, other = values
        return guarded({
            "+": lambda: one + other, "-": lambda: one - other, "*": lambda: one * other, "/": lambda: one.over(other),
            "<": lambda: one.is_less(other), "<=": lambda: one == other or one.is_less(other),
        }[sign])

    def do_call(self, tree, place):
        return self.call(self.tree(tree[1], place), tree[2], place)

    def call(self, function, args, place):
        need(kind(function) == "function")
        if isinstance(function, Package):
            return self.package(function.name, args, place)
        names = [name for name, _ in function.tree[1]]
        told = {}
        for name, tree in args:
            if name is not None:
                need(name not in told, "twice", name)
                told[name] = tree
        for name, _ in args:
            need(name is None or name in names, "unknown", name)
        left = [name for name in names if name not in told]
        for name, tree in args:
            if name is None:
                need(left, "many")
                told[left.pop(0)] = tree
        self.step(1)
        inner = Place(function.place)
        for name, default in function.tree[1]:
            if name in told:
                inner.params[name] = Argument(told[name], place)
            else:
                inner.params[name] = None if default is None else Argument(default, inner)
        return self.opened(lambda: self.tree(function.tree[2], inner))

    def package(self, name, args, place):
        values = [self.tree(tree, place) for _, tree in args]
        for told, _ in args:
            need(told is None, "unknown", told)
        need(len(values) <= COUNTS[name], "many")
        need(len(values) == COUNTS[name], "lacking")
        action = getattr(self, "call_" + name)(*values)
        self.step(20)
        return guarded(action)

    def kinds(self, values, *kinds):
        need([kind(value) for value in values] == list(kinds))

    def whole(self, ratio):
        need(ratio.bottom == 1 and len(str(abs(ratio.top))) <= 60)
        return ratio.top

    def words(self, text):
        return text.split(" ") if text != "" else []

    def is_name(self, word):
        try:
            Formula((), response=word)
            return True
        except errors.InvalidFormula:
            return False

    def call_table(self, s):
        self.kinds([s], "text")
        return lambda: read_table(s.replace(";", "\n"))

    def call_formula(self, s):
        self.kinds([s], "text")
        return lambda: read_formula(s)

    def call_plan(self, p, s, w):
        self.kinds([p, s, w], "ratio", "text", "text")
        p, names, words = self.whole(p), self.words(s), self.words(w)
        need(all(self.is_name(name) for name in names))
        need(all(len(word) == len(names) and set(word) <= set("0123456789") for word in words))
        return lambda: Plan(p, tuple(names), tuple((tuple(map(int, word)), 0) for word in words))

    def call_runs(self, plan):
        self.kinds([plan], "plan")
        return plan.as_table

    def call_put(self, t, s, w):
        self.kinds([t, s, w], "table", "text", "text")
        need(self.is_name(s))
        try:
            column = Numbers(tuple(None if word == "?" else Ratio.of_text(word) for word in self.words(w)))
        except errors.ParseError:
            raise Fault("kind", "") from None
        return lambda: t.with_column(s, column)

    def call_rows(self, t):
        self.kinds([t], "table")
        return lambda: Ratio(len(t))

    def call_model(self, t, f):
        self.kinds([t, f], "table", "formula")
        return lambda: Model(t, f, codings=None)

    def call_columns(self, m):
        self.kinds([m], "model")
        return lambda: Ratio(len(m.names))

    def call_rank(self, m):
        self.kinds([m], "model")
        return lambda: Ratio(len(m.space))

    def call_fit(self, m):
        self.kinds([m], "model")
        return lambda: Fit(m)

    def call_left(self, x):
        self.kinds([x], "fit")
        return lambda: x.left

    def call_adds(self, x, n):
        self.kinds([x, n], "fit", "ratio")
        need(self.whole(n) in range(len(x.model.formula) + 1))
        return lambda: x.sums()[n.top]

    def call_alike(self, f, g, t):
        self.kinds([f, g, t], "formula", "formula", "table")
        return lambda: is_alike(f, g, t.kinds)

    def call_count(self, f, t):
        self.kinds([f, t], "formula", "table")
        levels = {name: len(t[name].levels) for name in t.names if t.kinds[name] == "factor"}
        return lambda: Ratio(count_of(f, t.kinds)(levels))

    def call_show(self, v):
        return lambda: short(text_of(v))

    def call_print(self, v):
        def action():
            text = short(text_of(v))
            if len(self.lines) == 200:
                raise Limit("lines")
            self.lines.append(text)
            return text

        return action


def slow_outcome(program):
    run = Slow(program).go()
    return run.end, tuple(run.lines), run.steps
