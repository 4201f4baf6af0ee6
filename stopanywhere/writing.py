"""Writing trees as texts, by the fewest parentheses."""

from stopanywhere.parts import parts_of
from stopanywhere.words import is_name

# A tree's sign, the level that it has itself, and those that its two sides must have at least.
SIGNS_OF_TREES = {
    "or": ("or", 0, 0, 1), "and": ("and", 1, 1, 2),
    "less": ("<", 2, 3, 3), "atmost": ("<=", 2, 3, 3), "same": ("==", 2, 3, 3),
    "plus": ("+", 3, 3, 4), "minus": ("-", 3, 3, 4),
    "times": ("*", 4, 4, 5), "over": ("over", 4, 4, 5), "rest": ("rest", 4, 4, 5),
}
NOT_LEVEL = 2
INDENT = "  "


def joined(words):
    """The words in one line, with a blank between two of them where one must stand."""
    pieces = []
    before = "("
    for word in words:
        if not (before == "(" or word in (")", ",") or (word == "(" and is_name(before))):
            pieces.append(" ")
        pieces.append(word)
        before = word
    return "".join(pieces)


def words_of_expression(expression, least):
    """The words of an expression, in parentheses if its level is below least."""
    word = expression[0]
    if word in SIGNS_OF_TREES:
        sign, level, left, right = SIGNS_OF_TREES[word]
        found = words_of_expression(expression[1], left) + [sign] + words_of_expression(expression[2], right)
    elif word == "not":
        level = NOT_LEVEL
        found = ["not"] + words_of_expression(expression[1], NOT_LEVEL)
    else:
        return _words_of_thing(expression)
    return ["("] + found + [")"] if level < least else found


def _words_of_thing(expression):
    word = expression[0]
    if word == "number":
        return [str(expression[1])]
    if word == "truth":
        return ["true" if expression[1] else "false"]
    if word == "name":
        return [expression[1]]
    parts = _listed([words_of_expression(part, 0) for _, part in parts_of(expression)])
    if word == "call":
        return [expression[1], "("] + parts + [")"]
    if word == "make" and parts == []:
        return ["make", expression[1]]
    return [word, expression[1], "("] + parts + [")"]


def _listed(items):
    """The words of items, with commas between them."""
    found = []
    for item in items:
        if found:
            found.append(",")
        found.extend(item)
    return found


def _listed_names(names):
    return _listed([[name] for name in names])


def _headed(name, names):
    """The words of a name with others behind it in parentheses, if there are any."""
    return [name, "("] + _listed_names(names) + [")"] if names else [name]


def lines_of_block(block, indent):
    """The lines of the statements of a block."""
    found = []
    for statement in block:
        found.extend(_lines_of_statement(statement, indent))
    return found


def _lines_of_statement(statement, indent):
    word = statement[0]
    if word in ("if", "while"):
        head = indent + joined([word] + words_of_expression(statement[1], 0) + ["{"])
        found = [head] + lines_of_block(statement[2], indent + INDENT)
        if word == "if" and statement[3] != ():
            found.append(indent + "} else {")
            found.extend(lines_of_block(statement[3], indent + INDENT))
        return found + [indent + "}"]
    if word == "match":
        found = [indent + joined(["match"] + words_of_expression(statement[1], 0) + ["{"])]
        for variant, names, block in statement[2]:
            found.extend(_lines_of_branch(variant, names, block, indent + INDENT))
        return found + [indent + "}"]
    return [indent + joined(_words_of_statement(statement))]


def _lines_of_branch(variant, names, block, indent):
    head = indent + joined(_headed(variant, names) + ["{"])
    return [head] + lines_of_block(block, indent + INDENT) + [indent + "}"]


def _words_of_statement(statement):
    word = statement[0]
    last = words_of_expression(statement[-1], 0)
    if word in ("let", "set"):
        return [word, statement[1], "="] + last
    if word == "put":
        row = words_of_expression(statement[2], 0)
        index = words_of_expression(statement[3], 0)
        return ["put", statement[1], "("] + row + [","] + index + [")", "="] + last
    if word == "try":
        call = words_of_expression(statement[2], 0)
        return ["try", statement[1], "="] + call + ["else", statement[3], ":"] + last
    return [word] + last


def lines_of_unit(unit):
    """The lines of a unit."""
    _, name, used, declarations, functions = unit
    uses = ["uses"] + _listed_names(used) if used else []
    found = [joined(["unit", name] + uses)]
    for declaration in declarations:
        found.append(joined(_words_of_declaration(declaration)))
    for function in functions:
        _, called, parameters, block = function
        found.append(joined(["function", called, "("] + _listed_names(parameters) + [")", "{"]))
        found.extend(lines_of_block(block, INDENT))
        found.append("}")
    return found


def _words_of_declaration(declaration):
    word, name, told = declaration
    if word == "row":
        return ["row", name, "of", told]
    found = ["choice", name]
    for variant, kinds in told:
        found.append("=" if len(found) == 2 else "|")
        found.extend(_headed(variant, kinds))
    return found


def text_of_lines(lines):
    """The text of lines, each one ended by a line feed."""
    return "".join([line + "\n" for line in lines])
