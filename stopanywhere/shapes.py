"""The form of codes: places, rows, ends, frames and formulas, whatever they name and wherever they stand."""

from stopanywhere.values import first_again, is_number, is_number_between, is_tuple_of
from stopanywhere.words import is_name

MOST_BLOCK = 9999
MOST_OF_PLACES = {"v": 9999, "r": 8, "s": 999}
MOST_FRAMES = 12
# Whether a row gives a place, and what stands behind its word: a a place, A places, n a number, k a number from 0 on,
# x the name of a variant, a kind or a function, F frames.
ROWS = {
    "const": (True, "n"), "copy": (True, "a"), "plus": (True, "aa"), "minus": (True, "aa"), "times": (True, "aa"),
    "less": (True, "aa"), "atmost": (True, "aa"), "same": (True, "aa"), "not": (True, "a"), "make": (True, "xA"),
    "tag": (True, "a"), "part": (True, "xka"), "long": (True, "xa"), "over": (True, "aa"), "rest": (True, "aa"),
    "new": (True, "xaa"), "at": (True, "xaa"), "put": (False, "xaaa"), "show": (False, "a"), "call": (True, "xA"),
    "mark": (False, "F"), "back": (False, "F"), "still": (False, "F"),
}
CONTEXT_WORDS = ("mark", "back", "still")
PURE_WORDS = (
    "const", "copy", "plus", "minus", "times", "less", "atmost", "same", "not", "make", "tag", "part", "long",
)
# The same of ends; b is the number of a block.
ENDS = {"jump": "bA", "branch": "abb", "return": "a", "fail": "a", "try": "xAbb"}


def is_place(thing):
    """Whether any value is a place of named or of placed code."""
    if not isinstance(thing, str) or not 2 <= len(thing) <= 5 or thing[0] not in MOST_OF_PLACES:
        return False
    figures = thing[1:]
    if not figures.isascii() or not figures.isdigit() or (figures[0] == "0" and figures != "0"):
        return False
    return int(figures) <= MOST_OF_PLACES[thing[0]]


def place_number(place):
    return int(place[1:])


def is_code_kind(thing):
    """Whether any value is a kind of code, in which truths are numbers."""
    return thing == "number" or is_name(thing)


def is_code(thing):
    """Whether any value has the form of code of any level."""
    if not is_tuple_of(thing, 3) or not is_name(thing[0]) or not is_code_kind(thing[1]):
        return False
    blocks = thing[2]
    if not isinstance(blocks, dict) or not all([is_block_number(number) for number in blocks]):
        return False
    return all([_is_code_block(block) for block in list(blocks.values())])


def is_block_number(thing):
    return is_number_between(thing, 0, MOST_BLOCK)


def _is_code_block(thing):
    if not is_tuple_of(thing, 3) or not isinstance(thing[0], tuple) or not isinstance(thing[1], tuple):
        return False
    if not all([_is_parameter(parameter) for parameter in thing[0]]) or not all([is_row(row) for row in thing[1]]):
        return False
    return _is_end(thing[2])


def _is_parameter(thing):
    return is_tuple_of(thing, 2) and is_place(thing[0]) and is_code_kind(thing[1])


def is_row(thing):
    if not isinstance(thing, tuple) or len(thing) < 2 or not isinstance(thing[1], str) or thing[1] not in ROWS:
        return False
    gives, letters = ROWS[thing[1]]
    if not (is_place(thing[0]) if gives else thing[0] is None):
        return False
    return _have_form(thing[2:], letters)


def _is_end(thing):
    if not isinstance(thing, tuple) or thing == () or not isinstance(thing[0], str) or thing[0] not in ENDS:
        return False
    return _have_form(thing[1:], ENDS[thing[0]])


def _have_form(parts, letters):
    if len(parts) != len(letters):
        return False
    return all([_has_form(part, letter) for part, letter in zip(parts, letters)])


def _has_form(part, letter):
    if letter == "a":
        return is_place(part)
    if letter == "A":
        return isinstance(part, tuple) and all([is_place(place) for place in part])
    if letter == "n":
        return is_number(part)
    if letter == "k":
        return is_number(part) and part >= 0
    if letter == "x":
        return is_name(part)
    if letter == "b":
        return is_block_number(part)
    return _are_frames(part)


def _are_frames(thing):
    if not isinstance(thing, tuple) or not 1 <= len(thing) <= MOST_FRAMES:
        return False
    return all([_is_frame(frame) for frame in thing])


def _is_frame(thing):
    if not is_tuple_of(thing, 3) or not is_name(thing[0]) or not is_number(thing[1]) or thing[1] < 0:
        return False
    variables = thing[2]
    if not isinstance(variables, tuple) or not all([_is_variable(variable) for variable in variables]):
        return False
    names = [name for name, _, _ in variables]
    return names == sorted(names) and first_again(names) is None


def _is_variable(thing):
    return is_tuple_of(thing, 3) and is_name(thing[0]) and is_code_kind(thing[1]) and is_formula(thing[2])


def is_formula(thing):
    """Whether any value has the form of a formula."""
    if not isinstance(thing, tuple) or thing == ():
        return False
    if thing[0] == "is":
        return len(thing) == 2 and is_number(thing[1])
    if thing[0] == "of":
        return len(thing) == 4 and is_place(thing[1]) and _is_sign(thing[2]) and is_number(thing[3])
    if thing[0] == "make":
        return len(thing) == 3 and is_name(thing[1]) and _are_formulas(thing[2])
    return thing == ("lost",)


def _is_sign(thing):
    return is_number(thing) and thing in (1, -1)


def _are_formulas(thing):
    if not isinstance(thing, tuple):
        return False
    for formula in thing:
        if not is_formula(formula):
            return False
    return True
