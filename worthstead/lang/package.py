"""The package functions of programs."""

from worthstead.errors import (
    InvalidFormula,
    InvalidModel,
    InvalidNumber,
    InvalidPlan,
    InvalidTable,
    ParseError,
    Refused,
    TooMany,
    UnknownName,
)
from worthstead.exact.ratios import Ratio, is_plain_int, ratio_read, wrong_spot
from worthstead.exact.rows import rank_of
from worthstead.fits.fits import Fit
from worthstead.formulas.counts import count_of
from worthstead.formulas.reader import read_formula
from worthstead.formulas.shadows import is_alike
from worthstead.lang.faults import Fault
from worthstead.lang.values import kind_of
from worthstead.models.models import Model
from worthstead.names import DIGITS, is_name
from worthstead.plans.plans import Plan
from worthstead.tables.columns import FACTOR, Numbers
from worthstead.tables.texts import LACKING, read_table

ANY = "any"
# The kinds of the arguments of each function.
WANTED = {
    "table": ("text",),
    "formula": ("text",),
    "plan": ("ratio", "text", "text"),
    "runs": ("plan",),
    "put": ("table", "text", "text"),
    "rows": ("table",),
    "model": ("table", "formula"),
    "columns": ("model",),
    "rank": ("model",),
    "fit": ("model",),
    "left": ("fit",),
    "adds": ("fit", "ratio"),
    "alike": ("formula", "formula", "table"),
    "count": ("formula", "table"),
    "show": ("any",),
    "print": ("any",),
}


def is_package_name(name):
    """Whether a package function has this name."""
    return name in WANTED


def prepared(called, names, values):
    """The arguments of a package function, read as far as they are words; a fault if they are wrong."""
    for name in names:
        if name is not None:
            raise Fault("unknown", name)
    wanted = WANTED[called]
    if len(values) != len(wanted):
        raise Fault("many" if len(values) > len(wanted) else "lacking", "")
    if not all([kind in (ANY, kind_of(value)) for kind, value in zip(wanted, values)]):
        raise Fault("kind", "")
    if called == "plan":
        return [whole_number(values[0]), *names_and_words(values[1], values[2])]
    if called == "put":
        return [values[0], one_name(values[1]), numbers_of_text(values[2])]
    if called == "adds":
        return [values[0], index_within(values[1], len(values[0].model.formula) + 1)]
    return values


def whole_number(ratio):
    """The integer that a ratio is."""
    if ratio.bottom != 1 or not is_plain_int(ratio.top):
        raise Fault("kind", "")
    return ratio.top


def index_within(ratio, many):
    """The index of one of so many things that a ratio is."""
    index = whole_number(ratio)
    if not 0 <= index < many:
        raise Fault("kind", "")
    return index


def words_of(text):
    """The words of a text, with single blanks between them."""
    return text.split(" ") if text else []


def one_name(text):
    """The name that a text is."""
    if not is_name(text):
        raise Fault("kind", "")
    return text


def names_and_words(names_text, words_text):
    """The names, and the words with a numeral for each name."""
    names = tuple([one_name(word) for word in words_of(names_text)])
    words = words_of(words_text)
    for word in words:
        if len(word) != len(names) or not all([character in DIGITS for character in word]):
            raise Fault("kind", "")
    return names, tuple([tuple([int(character) for character in word]) for word in words])


def numbers_of_text(text):
    """The number column with the ratios of a text."""
    words = words_of(text)
    if not all([word == LACKING or wrong_spot(word) is None for word in words]):
        raise Fault("kind", "")
    return Numbers(tuple([None if word == LACKING else ratio_read(word) for word in words]))


def performed(called, values):
    """The value of a package function with right arguments, but for those that show and print."""
    action = ACTIONS[called]
    try:
        return action(values)
    except ParseError as e:
        raise Fault("ParseError", kept_text(e.spot))
    except InvalidNumber as e:
        raise Fault("InvalidNumber", kept_text(e.given))
    except UnknownName as e:
        raise Fault("UnknownName", kept_text(e.wanted))
    except TooMany as e:
        raise Fault("TooMany", kept_text(e.limit))
    except Refused as e:
        raise Fault("Refused", kept_text(e.reason))
    except InvalidFormula:
        raise Fault("InvalidFormula", "")
    except InvalidTable:
        raise Fault("InvalidTable", "")
    except InvalidModel:
        raise Fault("InvalidModel", "")
    except InvalidPlan:
        raise Fault("InvalidPlan", "")


def kept_text(value):
    """The text of what an error keeps, empty unless this is an integer or a string."""
    if isinstance(value, str):
        return value
    return str(value) if isinstance(value, int) and not isinstance(value, bool) else ""


def table_of_text(values):
    """The table of a text with a semicolon in the place of each newline."""
    return read_table(values[0].replace(";", "\n"))


def formula_of_text(values):
    """The formula of a text."""
    return read_formula(values[0])


def plan_of_words(values):
    """The plan with some defining words, and all sides 0."""
    p, names, words = values
    return Plan(p, names, tuple([(word, 0) for word in words]))


def runs_of_plan(values):
    """The table of the runs of a plan."""
    return values[0].as_table()


def table_with(values):
    """A table with one more column of numbers."""
    table, name, column = values
    return table.with_column(name, column)


def rows_of_table(values):
    """The number of rows of a table."""
    return Ratio(values[0].total)


def model_of(values):
    """The model of a table and a formula."""
    return Model(values[0], values[1])


def columns_of_model(values):
    """The number of columns of a model."""
    return Ratio(len(values[0]))


def rank_of_model(values):
    """The dimension of the space of a model, which is the rank of its rows."""
    return Ratio(rank_of(values[0].rows))


def fit_of_model(values):
    """The fit of a model."""
    return Fit(values[0])


def left_of_fit(values):
    """The square of the rests of a fit."""
    return values[0].left


def member_of_sums(values):
    """A member of the sums of a fit."""
    return values[0].sums()[values[1]]


def is_alike_on(values):
    """Whether two formulas are alike by the kinds of a table."""
    return is_alike(values[0], values[1], values[2].kinds)


def count_on(values):
    """How many columns a formula has by the kinds and levels of a table."""
    formula, table = values
    count = count_of(formula, table.kinds)
    factors = [name for name in table.names if table[name].kind == FACTOR]
    return Ratio(count({name: len(table[name].levels) for name in factors}))


ACTIONS = {
    "table": table_of_text,
    "formula": formula_of_text,
    "plan": plan_of_words,
    "runs": runs_of_plan,
    "put": table_with,
    "rows": rows_of_table,
    "model": model_of,
    "columns": columns_of_model,
    "rank": rank_of_model,
    "fit": fit_of_model,
    "left": left_of_fit,
    "adds": member_of_sums,
    "alike": is_alike_on,
    "count": count_on,
}
