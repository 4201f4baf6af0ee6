"""What rows and ends of codes read, give and lead to, and the same with other places."""

from stopanywhere.shapes import CONTEXT_WORDS, ENDS, PURE_WORDS, ROWS
from stopanywhere.values import ascending


def is_context(row):
    return row[1] in CONTEXT_WORDS


def is_pure(row):
    return row[1] in PURE_WORDS


def frames_of(row):
    """The frames of a context row."""
    return row[2]


def reads_of_row(row):
    """The places that a row reads, from left to right; context rows read none."""
    _, letters = ROWS[row[1]]
    return _places_at(row[2:], letters)


def reads_of_end(end):
    """The places that an end reads, from left to right."""
    return _places_at(end[1:], ENDS[end[0]])


def _places_at(parts, letters):
    found = []
    for part, letter in zip(parts, letters):
        if letter == "a":
            found.append(part)
        elif letter == "A":
            found.extend(part)
    return found


def leads_to(end):
    """The blocks to which an end leads, from left to right."""
    return [part for part, letter in zip(end[1:], ENDS[end[0]]) if letter == "b"]


def copy_of(code):
    """A code in a new dict, its blocks ascending."""
    name, result, blocks = code
    return name, result, ascending(blocks)


def calls_in_code(code):
    """The functions that the rows and ends of a code call, block by block, each as often as it is called."""
    found = []
    for _, rows, end in list(code[2].values()):
        found.extend([row[2] for row in rows if row[1] == "call"])
        if end[0] == "try":
            found.append(end[1])
    return found


def given_in(block):
    """The places that a block gives, as parameters and by rows, in order."""
    parameters, rows, _ = block
    return [place for place, _ in parameters] + [row[0] for row in rows if row[0] is not None]


def _other_parts(parts, letters, others):
    """The parts of a row or an end with places as a dict tells them; a place that it does not tell stays."""
    found = []
    for part, letter in zip(parts, letters):
        if letter == "a":
            found.append(others.get(part, part))
        elif letter == "A":
            found.append(tuple([others.get(place, place) for place in part]))
        elif letter == "F":
            found.append(_other_frames(part, others))
        else:
            found.append(part)
    return found


def row_with(row, others):
    """A row with other places."""
    place, word = row[:2]
    _, letters = ROWS[word]
    return (others.get(place, place), word, *_other_parts(row[2:], letters, others))


def end_with(end, others):
    """An end with other places."""
    return (end[0], *_other_parts(end[1:], ENDS[end[0]], others))


def _other_frames(frames, others):
    found = []
    for function, point, variables in frames:
        told = [(name, kind, formula_with(formula, others)) for name, kind, formula in variables]
        found.append((function, point, tuple(told)))
    return tuple(found)


def formula_with(formula, others):
    """A formula with other places."""
    if formula[0] == "of":
        _, place, sign, number = formula
        return "of", others.get(place, place), sign, number
    if formula[0] == "make":
        _, variant, parts = formula
        return "make", variant, tuple([formula_with(part, others) for part in parts])
    return formula


def end_leading(end, numbers):
    """An end with the numbers of blocks as a dict tells them."""
    parts = [numbers[part] if letter == "b" else part for part, letter in zip(end[1:], ENDS[end[0]])]
    return (end[0], *parts)
