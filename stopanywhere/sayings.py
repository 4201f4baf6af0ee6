"""What frames say by terms, and whether two sides say the same."""

from stopanywhere.sums import added, sum_of_number, turned


def formula_term(book, formula, terms):
    """The term of a formula by a dict from places to terms, None if it, or a place of it, has none."""
    word = formula[0]
    if word == "is":
        return sum_of_number(formula[1])
    if word == "of":
        _, place, sign, number = formula
        if place not in terms:
            return None
        term = terms[place] if sign == 1 else turned(terms[place])
        return added(term, sum_of_number(number))
    if word == "lost":
        return None
    _, variant, parts = formula
    found = [formula_term(book, part, terms) for part in parts]
    return None if None in found else book.atom("make", variant, tuple(found))


def said_frames(book, frames, terms):
    """Frames with terms, or None, in the place of formulas."""
    found = []
    for function, point, variables in frames:
        told = [(name, kind, formula_term(book, formula, terms)) for name, kind, formula in variables]
        found.append((function, point, tuple(told)))
    return tuple(found)


def points_of(said):
    """The functions and points of frames."""
    return [(function, point) for function, point, _ in said]


def unlike_frames(said, other):
    """Why frames of the new side do not fit those of the old one, None if they do.

    A pair: the word, "points", "frames" or "told", and the pairs of terms, of the new and the old side, that differ.
    """
    if points_of(said) != points_of(other):
        return "points", []
    pairs = []
    for (_, _, told), (_, _, old_told) in zip(said, other):
        if [variable[:2] for variable in told] != [variable[:2] for variable in old_told]:
            return "frames", []
        terms = [(variable[2], old_variable[2]) for variable, old_variable in zip(told, old_told)]
        pairs.extend([pair for pair in terms if pair[0] is not None and pair[0] != pair[1]])
    return None if pairs == [] else ("told", pairs)
