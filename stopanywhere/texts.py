"""Texts: reading and writing units, expressions and blocks, and the places of statements."""

from stopanywhere.errors import BadPlace, BadText, BadTree
from stopanywhere.reading import Reader
from stopanywhere.scanning import scanned
from stopanywhere.trees import is_block, is_expression, is_unit
from stopanywhere.values import ascending, is_number
from stopanywhere.writing import joined, lines_of_block, lines_of_unit, text_of_lines, words_of_expression


def words_of(text):
    """The triples (word, line, column) of the words of a text."""
    return scanned(text)


def read_unit(text):
    """The unit that a text tells."""
    reader = Reader(text)
    found = reader.whole_unit()
    reader.finish()
    return found


def read_expression(text):
    """The expression that a text tells."""
    reader = Reader(text)
    found = reader.expression(0)
    reader.finish()
    return found


def read_block(text):
    """The block whose statements a text tells, without its braces."""
    reader = Reader(text)
    found = reader.statements()
    reader.finish()
    return found


def can_follow(text):
    """The sorts of words that can stand behind the beginning of a unit's text."""
    reader = Reader(text)
    try:
        reader.whole_unit()
        reader.finish()
    except BadText as wrong:
        if not reader.is_through():
            raise
        return wrong.wanted
    return reader.all_wanted()


def unit_text(unit):
    """The text of a unit."""
    if not is_unit(unit):
        raise BadTree("no unit")
    return text_of_lines(lines_of_unit(unit))


def expression_text(expression):
    """The text of an expression, one line without a line feed."""
    if not is_expression(expression):
        raise BadTree("no expression")
    return joined(words_of_expression(expression, 0))


def block_text(block):
    """The text of the statements of a block."""
    if not is_block(block):
        raise BadTree("no block")
    return text_of_lines(lines_of_block(block, ""))


def _function_spans(text):
    reader = Reader(text)
    reader.whole_unit()
    reader.finish()
    return reader.function_spans()


def places_of(text):
    """The dict from the functions of a unit's text to the places of their statements, by points."""
    spans = _function_spans(text)
    return ascending({name: tuple([first for first, _ in spans[name]]) for name in spans})


def point_at(text, line, column):
    """The function and the point of the innermost statement that reaches over a place, None if none does."""
    spans = _function_spans(text)
    if not is_number(line) or line < 1 or not is_number(column) or column < 1:
        raise BadPlace("no place of a text")
    for name in spans:
        reaching = [point for point, (first, last) in enumerate(spans[name]) if first <= (line, column) <= last]
        if reaching:
            # Of the statements around a place the innermost one has the greatest point.
            return name, reaching[-1]
    return None
