"""Lines that a desk is told, by their form, and worths as texts."""

from stopanywhere.words import is_name

LEVELS = ("named", "lean", "placed", "image")
# What stands behind the words of lines: c a number from 1 on, x a name, w a level.
LINES = {
    "forth": "c", "back": "c", "next": "", "last": "", "until": "xc", "change": "x", "collect": "", "level": "w",
    "where": "", "line": "", "names": "", "worth": "x", "shown": "",
}


def words_of_line(line):
    """The words of a line, numbers as numbers; None for any value that is no line."""
    if not isinstance(line, str):
        return None
    words = line.split(" ")
    if words[0] not in LINES or len(words) != len(LINES[words[0]]) + 1:
        return None
    found = [_word_by(word, letter) for word, letter in zip(words[1:], LINES[words[0]])]
    return None if None in found else [words[0], *found]


def _word_by(word, letter):
    """A word as what must stand there, None if it is none."""
    if letter == "x":
        return word if is_name(word) else None
    if letter == "w":
        return word if word in LEVELS else None
    # From 1 to 9999.
    if not word.isascii() or not word.isdigit() or len(word) > 4 or word[0] == "0":
        return None
    return int(word)


def joined(words):
    """Words with one blank between two; a minus sign if there are none."""
    return " ".join([str(word) for word in words]) if words else "-"


def text_of_worth(picture, rows):
    """A picture as a text; rows are those that are met through it alone, by their numbers."""
    found = []
    met = {}
    # Rows may lie in one another as deep as there are boxes, so what is still to be told is kept in a list.
    coming = [picture]
    while coming:
        part = coming.pop()
        if isinstance(part, tuple):
            coming.extend(list(reversed(_pieces(part, rows, met))))
        else:
            found.append(str(part))
    return "".join(found)


def _pieces(picture, rows, met):
    """The texts and pictures of which a box's text consists; met tells which rows were told so far."""
    word, told = picture
    if word != "row":
        return [word, *_listed("(", told, ")")] if told else [word]
    if told in met:
        return [f"#{told}"]
    met[told] = True
    return [f"#{told}", *_listed("[", rows[told][1], "]")]


def _listed(first, parts, last):
    found = [first]
    for at, part in enumerate(parts):
        found.extend([", ", part] if at > 0 else [part])
    return [*found, last]
