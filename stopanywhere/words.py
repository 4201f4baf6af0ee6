"""The words of texts: what is a name, what is a kept word, and which sorts of words there are."""

from stopanywhere.errors import BadWord

KEPT = (
    "and", "at", "choice", "else", "fail", "false", "function", "if", "let", "long", "make", "match", "new", "not",
    "number", "of", "or", "over", "put", "rest", "return", "row", "set", "show", "true", "truth", "try", "unit",
    "uses", "while",
)
SIGNS = ("(", ")", "{", "}", ",", ":", "=", "|", "+", "-", "*", "<", "<=", "==")
LETTERS = "abcdefghijklmnopqrstuvwxyz"
INNER = "abcdefghijklmnopqrstuvwxyzABCDEFGHIJKLMNOPQRSTUVWXYZ0123456789_"
PERCENT = 37


def is_name(thing):
    """Whether any value is a name: 1 to 8 letters that are no kept word."""
    if not isinstance(thing, str) or not 1 <= len(thing) <= 8 or thing in KEPT:
        return False
    return all([letter in LETTERS for letter in thing])


def is_text(thing):
    """Whether any value is a string of line feeds and of characters from the blank to ~, but the percent sign."""
    if not isinstance(thing, str):
        return False
    return all([sign == "\n" or (" " <= sign <= "~" and ord(sign) != PERCENT) for sign in thing])


def word_end(text, at):
    """The index behind the longest word that begins at this index, where no blank and no line feed stands."""
    sign = text[at]
    if sign in INNER:
        return _inner_end(text, at + 1)
    behind = text[at + 1:at + 2]
    if sign == "-" and behind.isdigit():
        return _inner_end(text, at + 2)
    if sign + behind in ("<=", "=="):
        return at + 2
    return at + 1


def _inner_end(text, at):
    while at < len(text) and text[at] in INNER:
        at += 1
    return at


def sort_of(word):
    """The sort of a word: name, figures, strange, or a kept word or sign itself."""
    if not is_text(word) or word == "" or word[0] in " \n" or word_end(word, 0) != len(word):
        raise BadWord("no word of a text")
    return sort_told(word)


def sort_told(word):
    """The sort of what is known to be a word."""
    if word in KEPT or word in SIGNS:
        return word
    if is_name(word):
        return "name"
    if _is_figures(word):
        return "figures"
    return "strange"


def _is_figures(word):
    if word == "0":
        return True
    figures = word[1:] if word[0] == "-" else word
    return figures.isdigit() and figures[0] != "0"
