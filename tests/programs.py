"""Programs by chance."""

NAMES = ["a", "b", "f", "g", "x", "y"]
TABLE = "rows 4;factor a lo,hi lo hi lo hi;factor b lo,hi lo lo hi hi;number y 1 2 4 ?;"
SIGNS = ["|", "&", "==", "<", "<=", "+", "-", "*", "/"]


def pick(rng, *choices):
    return rng.choice(choices)


def leaf(rng):
    word = rng.choice(["number", "number", "string", "truth", "gone", "name", "name", "name", "name", "formula", "text"])
    if word == "number":
        return ("number", rng.choice([0, 1, 2, 3, 10 ** 12]))
    if word == "string":
        return ("string", rng.choice(["", "ab", "y", "1 2 4 ?", "11", "a b", TABLE, "y ~ a + b", "x" * 390]))
    if word == "truth":
        return ("truth", rng.random() < 0.5)
    if word == "gone":
        return ("gone",)
    if word == "formula":
        return ("formula", rng.choice(["y ~ a", "a + b", "0 + x", "y ~ a + b + a:b"]))
    if word == "text":
        return ("text", rng.choice(NAMES))
    return ("name", rng.choice(NAMES + ["print", "show"]))


def pairs(rng, depth, most):
    return tuple((rng.choice(NAMES) if rng.random() < 0.3 else None, tree(rng, depth)) for _ in range(rng.randint(0, most)))


def params(rng, depth):
    names = rng.sample(NAMES, rng.randint(0, 3))
    return tuple((name, tree(rng, depth) if rng.random() < 0.4 else None) for name in names)


def call(rng, depth):
    if rng.random() < 0.5:
        return ("call", ("name", rng.choice(["f", "g"])), pairs(rng, depth, 3))
    if rng.random() < 0.4:
        return ("call", tree(rng, depth), pairs(rng, depth, 2))
    return package_call(rng, depth)


def package_call(rng, depth):
    told = ("call", ("name", "table"), ((None, ("string", TABLE)),))
    formula = ("formula", rng.choice(["y ~ a", "y ~ a + b", "a", "y ~ z"]))
    model = ("call", ("name", "model"), ((None, told), (None, formula)))
    fit = ("call", ("name", "fit"), ((None, model),))
    plan = ("call", ("name", "plan"), ((None, ("number", rng.choice([2, 3, 4]))), (None, ("string", "a b c")), (None, ("string", rng.choice(["", "111", "11", "131", "000"])))))
    choices = [
        told, model, fit, plan, ("call", ("name", "runs"), ((None, plan),)), ("pick", told, rng.choice(["a", "z"])),
        ("call", ("name", "rows"), ((None, told),)), ("call", ("name", "columns"), ((None, model),)),
        ("call", ("name", "rank"), ((None, model),)), ("call", ("name", "left"), ((None, fit),)),
        ("call", ("name", "adds"), ((None, fit), (None, tree(rng, 0)))),
        ("call", ("name", "alike"), ((None, formula), (None, ("formula", "a + b")), (None, told))),
        ("call", ("name", "count"), ((None, formula), (None, told))),
        ("call", ("name", "put"), ((None, told), (None, leaf(rng)), (None, ("string", rng.choice(["1 2 3 4", "1 ? 1/2 4", "1 2", "2/4 1 1 1"]))))),
        ("with", told, tree(rng, depth)),
        ("call", ("name", rng.choice(["print", "show"])), ((None, tree(rng, depth)),)),
        ("call", ("name", rng.choice(["print", "show", "table", "rows"])), pairs(rng, depth, 2)),
    ]
    return rng.choice(choices)


def tree(rng, depth):
    if depth <= 0 or rng.random() < 0.15:
        return leaf(rng)
    word = rng.choice(["op", "op", "op", "call", "call", "call", "fun", "if", "block", "block", "with", "try", "try", "stop", "pick", "not"])
    inner = depth - 1
    if word == "op":
        return ("op", rng.choice(SIGNS), tree(rng, inner), tree(rng, inner))
    if word == "not":
        return ("op", rng.choice("!-"), tree(rng, inner))
    if word == "call":
        return call(rng, inner)
    if word == "fun":
        return ("fun", params(rng, inner), tree(rng, inner))
    if word == "if":
        condition = ("op", "<", leaf(rng), leaf(rng)) if rng.random() < 0.5 else tree(rng, inner)
        return ("if", condition, tree(rng, inner), tree(rng, inner))
    if word == "block":
        return ("block", tuple(statement(rng, inner) for _ in range(rng.randint(0, 3))))
    if word == "with":
        return ("with", tree(rng, inner), tree(rng, inner))
    if word == "try":
        handler = ("fun", (("x", None), ("y", None)), tree(rng, inner)) if rng.random() < 0.8 else tree(rng, inner)
        return ("try", tree(rng, inner), handler)
    if word == "stop":
        return ("stop", tree(rng, 0))
    return ("pick", tree(rng, inner), rng.choice(NAMES))


def statement(rng, depth):
    made = tree(rng, depth)
    return ("set", rng.choice(NAMES), made) if rng.random() < 0.4 else made


def caught(made):
    """A statement whose faults are caught, so that programs go on."""
    return ("try", made, ("fun", (("w", None), ("t", None)), ("call", ("name", "print"), ((None, ("op", "+", ("name", "w"), ("name", "t"))),))))


def program(rng, depth=4, most=5):
    made = [("set", name, ("fun", params(rng, depth - 1), tree(rng, depth - 1))) for name in ("f", "g") if rng.random() < 0.8]
    for _ in range(rng.randint(0, most)):
        one = statement(rng, depth)
        if rng.random() < 0.7:
            one = caught(one) if one[0] != "set" else ("set", one[1], caught(one[2]))
        made.append(one)
    return tuple(made)
