"""Values as single lines of text, and back. Places are told by numbers."""

from worthstead.exact.ratios import Ratio
from worthstead.fits.fits import Fit
from worthstead.formulas.reader import read_formula
from worthstead.lang.values import Late, Packaged, Written, kind_of
from worthstead.models.models import Model
from worthstead.plans.plans import Plan
from worthstead.tables.texts import read_table, write_table

NEWLINE = "\n"
BETWEEN = "|"


def line_of(text):
    """A text as one line."""
    return text.replace("~", "~0").replace(NEWLINE, "~1")


def text_of_line(line):
    """The text that a line stands for."""
    return line.replace("~1", NEWLINE).replace("~0", "~")


def model_text(model):
    """The formula and the table of a model, as a text."""
    return f"{model.formula}{BETWEEN}{write_table(model.table)}"


def model_of_text(text):
    """The model of a text."""
    formula, _, table = text.partition(BETWEEN)
    return Model(read_table(table), read_formula(formula))


def plan_text(plan):
    """The numbers, names and rows of a plan, as a text."""
    rows = ["".join([str(entry) for entry in word + (side,)]) for word, side in plan.rows]
    return " ".join([str(plan.p), ",".join(plan.names), *rows])


def plan_of_text(text):
    """The plan of a text."""
    words = text.split(" ")
    rows = [tuple([int(figure) for figure in word]) for word in words[2:]]
    return Plan(int(words[0]), tuple(words[1].split(",")), tuple([(row[:-1], row[-1]) for row in rows]))


def value_line(value, numbers):
    """The line of a value, which begins with its kind; the numbers of places are told by a dict."""
    kind = kind_of(value)
    if kind == "gone":
        return kind
    if kind == "truth":
        return f"{kind} {int(value)}"
    if isinstance(value, Packaged):
        return f"packaged {value.called}"
    if isinstance(value, (Written, Late)):
        return f"{kind} {value.number} {numbers[value.home]}"
    if kind == "table":
        return f"{kind} {line_of(write_table(value))}"
    if kind == "plan":
        return f"{kind} {plan_text(value)}"
    if kind in ("model", "fit"):
        text = model_text(value if kind == "model" else value.model)
        return f"{kind} {line_of(text)}"
    return f"{kind} {line_of(str(value))}"


def value_of_line(line, places):
    """The value of a line; the places are told by a list."""
    kind, _, rest = line.partition(" ")
    if kind == "gone":
        return None
    if kind == "truth":
        return rest == "1"
    if kind == "packaged":
        return Packaged(rest)
    if kind in ("function", "late"):
        number, _, home = rest.partition(" ")
        if kind == "function":
            return Written(int(number), places[int(home)])
        return Late(int(number), places[int(home)])
    return thing_of_text(kind, text_of_line(rest))


def thing_of_text(kind, text):
    """The value of a kind that has a text of its own."""
    if kind == "text":
        return text
    if kind == "ratio":
        return Ratio.of_text(text)
    if kind == "formula":
        return read_formula(text)
    if kind == "table":
        return read_table(text)
    if kind == "plan":
        return plan_of_text(text)
    model = model_of_text(text)
    return model if kind == "model" else Fit(model)
