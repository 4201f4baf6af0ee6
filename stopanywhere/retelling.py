"""Stories of rows, and formulas that tell of a place that goes."""


def story_of(row, blocks, givers):
    """What tells the place of a row by others, None if nothing does; givers tells the spots of rows by places."""
    word = row[1]
    if word == "const":
        return "is", row[2]
    if word == "copy":
        return "of", row[2], 1, 0
    if word == "make":
        return "make", row[2], tuple([("of", place, 1, 0) for place in row[3]])
    if word not in ("plus", "minus", "times"):
        return None
    _, _, one, other = row
    return _sum_story(word, one, other, _const_of(one, blocks, givers), _const_of(other, blocks, givers))


def _const_of(place, blocks, givers):
    """The number that a const gives a place, None if no const gives it."""
    number, at = givers[place]
    if at < 0:
        return None
    row = blocks[number][1][at]
    return row[2] if row[1] == "const" else None


def _sum_story(word, one, other, one_number, other_number):
    if word == "times":
        if other_number in (1, -1):
            return "of", one, other_number, 0
        return ("of", other, one_number, 0) if one_number in (1, -1) else None
    if other_number is not None:
        return "of", one, 1, other_number if word == "plus" else 0 - other_number
    if one_number is not None:
        return "of", other, 1 if word == "plus" else -1, one_number
    return None


def retold(formula, place, story):
    """A formula told otherwise, without a place that goes and has this story."""
    if formula[0] == "of" and formula[1] == place:
        return _behind_story(formula, story)
    if formula[0] != "make" or not tells_of(formula, place):
        return formula
    _, variant, parts = formula
    told = tuple([retold(part, place, story) for part in parts])
    return ("lost",) if ("lost",) in told else ("make", variant, told)


def _behind_story(formula, story):
    _, _, sign, number = formula
    if story is None:
        return ("lost",)
    if story[0] == "is":
        return "is", sign * story[1] + number
    if story[0] == "make":
        return story
    _, place, other_sign, other_number = story
    return "of", place, sign * other_sign, sign * other_number + number


def tells_of(formula, place):
    """Whether a formula, or one in it, tells of a place."""
    if formula[0] == "make":
        return any([tells_of(part, place) for part in formula[2]])
    return formula[0] == "of" and formula[1] == place


def row_retold(row, place, story):
    """A context row with its formulas told otherwise."""
    _, word, frames = row
    found = []
    for function, point, variables in frames:
        told = [(name, kind, retold(formula, place, story)) for name, kind, formula in variables]
        found.append((function, point, tuple(told)))
    return None, word, tuple(found)
