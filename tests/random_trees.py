"""Random trees that are right by their form alone."""

NAMES = ["a", "b", "c", "plus", "name", "call", "less", "zzzzzzzz", "minus", "at" + "e"]
BINARY = ["plus", "minus", "times", "over", "rest", "less", "atmost", "same", "and", "or"]


def name(rng):
    return rng.choice(NAMES)


def names(rng, most):
    return tuple(name(rng) for _ in range(rng.randint(0, most)))


def kind(rng):
    return rng.choice(["number", "truth", name(rng)])


def expressions(rng, depth):
    return tuple(expression(rng, depth - 1) for _ in range(rng.randint(0, 3)))


def expression(rng, depth):
    if depth <= 1 or rng.random() < 0.1:
        return rng.choice([
            ("number", rng.choice([0, 1, -1, 7, -123456789012, 999999999999])), ("truth", rng.random() < 0.5),
            ("name", name(rng)), ("call", name(rng), ()), ("make", name(rng), ()),
        ])
    roll = rng.random()
    if roll < 0.6:
        return rng.choice(BINARY), expression(rng, depth - 1), expression(rng, depth - 1)
    if roll < 0.75:
        return "not", expression(rng, depth - 1)
    if roll < 0.9:
        return rng.choice(["call", "make"]), name(rng), expressions(rng, depth)
    if roll < 0.96:
        return rng.choice(["new", "at"]), name(rng), expression(rng, depth - 1), expression(rng, depth - 1)
    return "long", name(rng), expression(rng, depth - 1)


def block(rng, depth):
    return tuple(statement(rng, depth) for _ in range(rng.randint(0, 3)))


def statement(rng, depth):
    word = rng.choice(["let", "set", "put", "show", "if", "while", "match", "try", "return", "fail"])
    inner = rng.randint(1, 4)
    one = expression(rng, inner)
    if depth <= 1 and word in ("if", "while", "match"):
        word = "show"
    if word in ("let", "set"):
        return word, name(rng), one
    if word == "put":
        return word, name(rng), one, expression(rng, inner), expression(rng, inner)
    if word == "if":
        return word, one, block(rng, depth - 1), block(rng, depth - 1)
    if word == "while":
        return word, one, block(rng, depth - 1)
    if word == "match":
        branches = [(name(rng), names(rng, 3), block(rng, depth - 1)) for _ in range(rng.randint(1, 4))]
        return word, one, tuple(branches)
    if word == "try":
        return word, name(rng), ("call", name(rng), expressions(rng, inner)), name(rng), one
    return word, one


def function(rng, depth):
    return "function", name(rng), names(rng, 3), block(rng, depth)


def declaration(rng):
    if rng.random() < 0.4:
        return "row", name(rng), kind(rng)
    variants = [(name(rng), tuple(kind(rng) for _ in range(rng.randint(0, 3)))) for _ in range(rng.randint(1, 4))]
    return "choice", name(rng), tuple(variants)


def unit(rng, depth=4):
    declarations = tuple(declaration(rng) for _ in range(rng.randint(0, 8)))
    functions = tuple(function(rng, depth) for _ in range(rng.randint(0, 4)))
    return "unit", name(rng), names(rng, 5), declarations, functions
