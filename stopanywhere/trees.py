"""Trees: kinds, expressions, statements, functions, declarations and units, by their form alone."""

from stopanywhere.errors import BadTree
from stopanywhere.parts import blocks_of, expressions_of, parts_of, statements_of
from stopanywhere.values import is_number, is_tuple_of
from stopanywhere.words import is_name

# Each letter tells what stands there: n a number, t a truth, x a name, e an expression, E expressions,
# c a call, b a block, B the branches of a match.
EXPRESSION_FORMS = {
    "number": "n", "truth": "t", "name": "x",
    "plus": "ee", "minus": "ee", "times": "ee", "over": "ee", "rest": "ee",
    "less": "ee", "atmost": "ee", "same": "ee", "and": "ee", "or": "ee", "not": "e",
    "call": "xE", "make": "xE", "new": "xee", "at": "xee", "long": "xe",
}
STATEMENT_FORMS = {
    "let": "xe", "set": "xe", "put": "xeee", "show": "e", "if": "ebb", "while": "eb", "match": "eB",
    "try": "xcxe", "return": "e", "fail": "e",
}


def is_kind(thing):
    """Whether any value is number, truth or a name."""
    return thing in ("number", "truth") or is_name(thing)


def is_expression(thing):
    return _is_headed(thing) and _has_form(thing, EXPRESSION_FORMS.get(thing[0]))


def is_block(thing):
    if not isinstance(thing, tuple):
        return False
    for statement in thing:
        if not _is_headed(statement) or not _has_form(statement, STATEMENT_FORMS.get(statement[0])):
            return False
    return True


def is_function(thing):
    if not is_tuple_of(thing, 4) or thing[0] != "function" or not is_name(thing[1]):
        return False
    return _are_names(thing[2], 3) and is_block(thing[3])


def is_declaration(thing):
    """Whether any value declares a choice or a kind of rows."""
    if not is_tuple_of(thing, 3) or not is_name(thing[1]):
        return False
    if thing[0] == "row":
        return is_kind(thing[2])
    if thing[0] != "choice" or not _is_tuple_between(thing[2], 1, 4):
        return False
    return all([_is_variant(variant) for variant in thing[2]])


def is_unit(thing):
    if not is_tuple_of(thing, 5) or thing[0] != "unit" or not is_name(thing[1]) or not _are_names(thing[2], 5):
        return False
    if not _is_tuple_between(thing[3], 0, 8) or not _is_tuple_between(thing[4], 0, 8):
        return False
    if not all([is_declaration(declaration) for declaration in thing[3]]):
        return False
    return all([is_function(function) for function in thing[4]])


def statements(function):
    """The statements of a function, in the order of its text."""
    if not is_function(function):
        raise BadTree("no function")
    return statements_of(function[3])


def calls_in(tree):
    """The names that are called in an expression, a block or a function, in the order of the text."""
    if is_expression(tree):
        return _calls_in_expression(tree)
    if is_block(tree):
        return _calls_in_block(tree)
    if is_function(tree):
        return _calls_in_block(tree[3])
    raise BadTree("neither an expression nor a block nor a function")


def depth(tree):
    """The number of levels of an expression or a block."""
    if is_expression(tree):
        return _expression_depth(tree)
    if is_block(tree):
        return _block_depth(tree)
    raise BadTree("neither an expression nor a block")


def _is_headed(thing):
    return isinstance(thing, tuple) and thing != () and isinstance(thing[0], str)


def _has_form(thing, form):
    """Whether what stands behind the first word has a form, None where no tree has this word."""
    if form is None or len(thing) != len(form) + 1:
        return False
    for letter, part in zip(form, thing[1:]):
        if not _is_part(letter, part):
            return False
    return True


def _is_part(letter, part):
    if letter == "n":
        return is_number(part)
    if letter == "t":
        return isinstance(part, bool)
    if letter == "x":
        return is_name(part)
    if letter == "e":
        return is_expression(part)
    if letter == "E":
        return _are_expressions(part)
    if letter == "c":
        return is_expression(part) and part[0] == "call"
    if letter == "b":
        return is_block(part)
    return _are_branches(part)


def _is_tuple_between(thing, least, most):
    return isinstance(thing, tuple) and least <= len(thing) <= most


def _are_names(thing, most):
    return _is_tuple_between(thing, 0, most) and all([is_name(name) for name in thing])


def _are_expressions(thing):
    if not _is_tuple_between(thing, 0, 3):
        return False
    for expression in thing:
        if not is_expression(expression):
            return False
    return True


def _are_branches(thing):
    if not _is_tuple_between(thing, 1, 4):
        return False
    for branch in thing:
        if not is_tuple_of(branch, 3) or not is_name(branch[0]) or not _are_names(branch[1], 3):
            return False
        if not is_block(branch[2]):
            return False
    return True


def _is_variant(thing):
    if not is_tuple_of(thing, 2) or not is_name(thing[0]) or not _is_tuple_between(thing[1], 0, 3):
        return False
    return all([is_kind(kind) for kind in thing[1]])


def _calls_in_expression(expression):
    found = [expression[1]] if expression[0] == "call" else []
    for _, part in parts_of(expression):
        found.extend(_calls_in_expression(part))
    return found


def _calls_in_block(block):
    found = []
    for statement in statements_of(block):
        for _, part in expressions_of(statement):
            found.extend(_calls_in_expression(part))
    return found


def _expression_depth(expression):
    return max([1] + [1 + _expression_depth(part) for _, part in parts_of(expression)])


def _block_depth(block):
    deepest = 0
    for statement in block:
        for _, part in expressions_of(statement):
            deepest = max(deepest, _expression_depth(part))
        for inner in blocks_of(statement):
            deepest = max(deepest, _block_depth(inner))
    return deepest + 1
