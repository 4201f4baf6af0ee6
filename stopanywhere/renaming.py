"""Units with other names: each name is told by its sort, and put back by what a renamer answers.

A renamer has a method other(sort, name), and a method begin_function() that is called ahead of each function. The
sorts are unit, kind, variant, function and variable.
"""

from stopanywhere.parts import EXPRESSIONS


class Numbering:
    """A renamer that numbers the names of each sort by their first places, variables function by function."""

    def __init__(self):
        self._numbers = {}
        self._variables = {}

    def begin_function(self):
        self._variables = {}

    def other(self, sort, name):
        table = self._variables if sort == "variable" else self._numbers
        return table.setdefault((sort, name), len(table))


class Replacing:
    """A renamer by a dict, that also gathers the names that it met."""

    def __init__(self, names):
        self._names = dict(names)
        self._met = {}

    def begin_function(self):
        pass

    def other(self, sort, name):
        self._met[name] = True
        return self._names.get(name, name)

    def met(self):
        return sorted(self._met)


def renamed_unit(unit, renamer):
    """The unit with all its names as the renamer answers them."""
    _, name, used, declarations, functions = unit
    return (
        "unit",
        renamer.other("unit", name),
        tuple([renamer.other("unit", other) for other in used]),
        tuple([_renamed_declaration(declaration, renamer) for declaration in declarations]),
        tuple([_renamed_function(function, renamer) for function in functions]),
    )


def _renamed_kind(kind, renamer):
    return kind if kind in ("number", "truth") else renamer.other("kind", kind)


def _renamed_kinds(kinds, renamer):
    return tuple([_renamed_kind(kind, renamer) for kind in kinds])


def _renamed_declaration(declaration, renamer):
    word, name, told = declaration
    other = renamer.other("kind", name)
    if word == "row":
        return word, other, _renamed_kind(told, renamer)
    variants = [(renamer.other("variant", variant), _renamed_kinds(kinds, renamer)) for variant, kinds in told]
    return word, other, tuple(variants)


def _renamed_function(function, renamer):
    renamer.begin_function()
    _, name, parameters, block = function
    other = renamer.other("function", name)
    return "function", other, _renamed_variables(parameters, renamer), _renamed_block(block, renamer)


def _renamed_variables(names, renamer):
    return tuple([renamer.other("variable", name) for name in names])


def _renamed_block(block, renamer):
    return tuple([_renamed_statement(statement, renamer) for statement in block])


def _renamed_statement(statement, renamer):
    word = statement[0]
    if word in ("let", "set"):
        return word, renamer.other("variable", statement[1]), _renamed_expression(statement[2], renamer)
    if word == "put":
        kind = renamer.other("kind", statement[1])
        return (word, kind, *_renamed_expressions(statement[2:], renamer))
    if word == "if":
        test = _renamed_expression(statement[1], renamer)
        return word, test, _renamed_block(statement[2], renamer), _renamed_block(statement[3], renamer)
    if word == "while":
        return word, _renamed_expression(statement[1], renamer), _renamed_block(statement[2], renamer)
    if word == "match":
        worth = _renamed_expression(statement[1], renamer)
        return word, worth, tuple([_renamed_branch(branch, renamer) for branch in statement[2]])
    if word == "try":
        name = renamer.other("variable", statement[1])
        call = _renamed_expression(statement[2], renamer)
        number = renamer.other("variable", statement[3])
        return word, name, call, number, _renamed_expression(statement[4], renamer)
    return word, _renamed_expression(statement[1], renamer)


def _renamed_branch(branch, renamer):
    variant, names, block = branch
    other = renamer.other("variant", variant)
    return other, _renamed_variables(names, renamer), _renamed_block(block, renamer)


def _renamed_expressions(expressions, renamer):
    return tuple([_renamed_expression(expression, renamer) for expression in expressions])


def _renamed_expression(expression, renamer):
    word = expression[0]
    if word in ("number", "truth"):
        return expression
    if word == "name":
        return word, renamer.other("variable", expression[1])
    if word == "call":
        called = renamer.other("function", expression[1])
        return word, called, _renamed_expressions(expression[2], renamer)
    if word == "make":
        variant = renamer.other("variant", expression[1])
        return word, variant, _renamed_expressions(expression[2], renamer)
    if word in ("new", "at", "long"):
        kind = renamer.other("kind", expression[1])
        return (word, kind, *_renamed_expressions(expression[2:], renamer))
    parts = [expression[at] for at in EXPRESSIONS[word]]
    return (word, *_renamed_expressions(parts, renamer))
