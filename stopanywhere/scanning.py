"""The words of a text with their places."""

from stopanywhere.errors import BadText
from stopanywhere.words import is_text, word_end


def scanned(text):
    """The triples (word, line, column) of the words of a text."""
    if not is_text(text):
        raise BadText(None, None, None)
    found = []
    at = 0
    line = 1
    begin = 0
    while at < len(text):
        if text[at] == "\n":
            line += 1
            begin = at + 1
        if text[at] in " \n":
            at += 1
        else:
            end = word_end(text, at)
            found.append((text[at:end], line, at - begin + 1))
            at = end
    return found


def place_behind(text):
    """The line and the column just behind the last character of a text."""
    return text.count("\n") + 1, len(text) - text.rfind("\n")
