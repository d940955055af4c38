"""Tables and models for tests, made by chance or from texts."""

from worthstead.exact.ratios import Ratio
from worthstead.formulas.reader import read_formula
from worthstead.models.models import Model
from worthstead.tables.columns import Factor, Numbers
from worthstead.tables.tables import Table
from worthstead.tables.texts import read_table


def table_of(*lines):
    """The table with the lines of a text behind the first one, which tells how many rows there are, in any order."""
    ordered = sorted(lines, key=lambda line: line.split(" ")[1])
    return read_table("".join(f"{line}\n" for line in [f"rows {total_of(lines[0])}"] + ordered))


def total_of(line):
    words = line.split(" ")
    return len(words) - (3 if words[0] == "factor" else 2)


def levels_of(many):
    return tuple(f"l{at}" for at in range(many))


def factor(many, codes):
    return Factor(levels_of(many), tuple(codes))


def numbers(*values):
    """A number column of integers, texts of ratios, and None."""
    return Numbers(tuple(None if one is None else Ratio.of_text(str(one)) for one in values))


def random_table(rng, total, factors=(("a", 2), ("b", 3), ("c", 2)), number_names="uvy", lacking=0.0, bottom=1):
    """A table with factors, told by names and numbers of levels, and with numbers."""

    def value(make):
        return None if rng.random() < lacking else make()

    columns = {}
    for name, many in factors:
        columns[name] = factor(many, [value(lambda m=many: rng.randrange(m)) for _ in range(total)])
    for name in number_names:
        columns[name] = Numbers(tuple(
            value(lambda: Ratio(rng.randint(-4, 4), rng.randint(1, bottom))) for _ in range(total)
        ))
    return Table(columns, total=total)


def random_formula(rng, names, most, response=None, constant=0.7):
    """A formula of some products of the names."""
    terms = ["1" if rng.random() < constant else "0"]
    for _ in range(rng.randint(0, most)):
        terms.append(":".join(rng.sample(names, rng.randint(1, min(3, len(names))))))
    text = " + ".join(terms)
    return read_formula(f"{response} ~ {text}" if response else text)


def model_of(table, text, **codings):
    """The model of a formula's text, with codings by names."""
    return Model(table, read_formula(text), codings=codings or None)


def long_model(rng, total, text, names="abcdefy"):
    """A model of numbers with six digits above, and unlike primes of six digits below."""
    primes = [n for n in range(990000, 999999) if all(n % d for d in range(2, 1000))]
    chosen = iter(rng.sample(primes, total * len(names)))
    columns = {
        name: Numbers(tuple(Ratio(rng.randint(900000, 989999), next(chosen)) for _ in range(total))) for name in names
    }
    return Model(Table(columns), read_formula(text))
