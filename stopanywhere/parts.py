"""What stands directly in expressions and statements. The trees are taken to be right."""

EXPRESSIONS = {
    "number": (), "truth": (), "name": (),
    "plus": (1, 2), "minus": (1, 2), "times": (1, 2), "over": (1, 2), "rest": (1, 2),
    "less": (1, 2), "atmost": (1, 2), "same": (1, 2), "and": (1, 2), "or": (1, 2),
    "not": (1,), "new": (2, 3), "at": (2, 3), "long": (2,),
}
STATEMENTS = {
    "let": (2,), "set": (2,), "put": (2, 3, 4), "show": (1,), "if": (1,), "while": (1,), "match": (1,),
    "try": (2, 4), "return": (1,), "fail": (1,),
}


def parts_of(expression):
    """The pairs (path, expression) of the expressions directly in an expression, from left to right."""
    if expression[0] in ("call", "make"):
        return [((2, at), part) for at, part in enumerate(expression[2])]
    return [((at,), expression[at]) for at in EXPRESSIONS[expression[0]]]


def expressions_of(statement):
    """The pairs (path, expression) of the expressions directly in a statement, from left to right."""
    return [((at,), statement[at]) for at in STATEMENTS[statement[0]]]


def blocks_of(statement):
    """The blocks directly in a statement, in the order of the text."""
    if statement[0] == "if":
        return [statement[2], statement[3]]
    if statement[0] == "while":
        return [statement[2]]
    if statement[0] == "match":
        return [branch[2] for branch in statement[2]]
    return []


def statements_of(block):
    """The statements of a block and of the blocks in it, in the order of the text."""
    found = []
    for statement in block:
        found.append(statement)
        for inner in blocks_of(statement):
            found.extend(statements_of(inner))
    return found


def names_let(statement):
    """The names that a statement lets, in the order of the text, those of its blocks aside."""
    if statement[0] == "let":
        return [statement[1]]
    if statement[0] == "try":
        return [statement[1], statement[3]]
    if statement[0] == "match":
        return [name for branch in statement[2] for name in branch[1]]
    return []


def does_statement_end(statement):
    """Whether nothing behind a statement in its block is ever reached."""
    if statement[0] == "if":
        return ends_block(statement[2]) and ends_block(statement[3])
    if statement[0] == "match":
        return all([ends_block(branch[2]) for branch in statement[2]])
    return statement[0] in ("return", "fail")


def ends_block(block):
    return block != () and does_statement_end(block[-1])


def declared_names(declaration):
    """The names that a declaration tells: that of the kind, then those of its variants."""
    if declaration[0] == "row":
        return [declaration[1]]
    return [declaration[1]] + [variant[0] for variant in declaration[2]]


def kinds_within(declaration):
    """The kinds of the fields of a choice or of the part of a row, in the order of the text."""
    if declaration[0] == "row":
        return [declaration[2]]
    return [kind for variant in declaration[2] for kind in variant[1]]
