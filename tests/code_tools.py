"""What tests of codes share: random sound programs with their named codes, and codes by hand."""

from random_programs import random_units
from stopanywhere.errors import KindClash
from stopanywhere.lowering import named_codes
from stopanywhere.plain import Program


def sound_programs(rng, many, most_units=3):
    """So many random programs without a clash of kinds."""
    found = []
    while len(found) < many:
        units = random_units(rng, most_units)
        try:
            found.append(Program(units))
        except KindClash:
            continue
    return found


def kinds_and_codes(program):
    """The declared kinds of a program, and the dict from its functions to their named codes."""
    kinds, codes = [], {}
    for unit in program.units:
        codes.update(named_codes(unit, {name: program.faces[name] for name in unit[2]}))
        kinds.extend(unit[3])
    return kinds, codes


def starts_of(program, rng):
    """Functions of a program that can be begun, with random arguments."""
    found = []
    for unit in program.units:
        for name, taken, _ in program.faces[unit[1]][3]:
            if all(kind in ("number", "truth") for kind in taken):
                found.append((name, [rng.randint(-2, 5) if kind == "number" else rng.random() < 0.5 for kind in taken]))
    return found


def context(word, *frames):
    """A context row of frames (function, point, variables).

    The variables are told as a dict from names to places of numbers, or to pairs of a kind and a place or a formula.
    """
    return None, word, tuple((function, point, variables(told)) for function, point, told in frames)


def variables(told):
    found = []
    for name in sorted(told):
        kind, formula = ("number", told[name]) if isinstance(told[name], str) else told[name]
        found.append((name, kind, ("of", formula, 1, 0) if isinstance(formula, str) else formula))
    return tuple(found)


def plain_block(name, number, parameters, rows, end, word="mark"):
    """A block of numbers alone that begins with a mark, or another context row, of the point of its number."""
    return tuple((place, "number") for place in parameters), (context(word, (name, number, {})), *rows), end


def numbers_code(name, blocks):
    """Named code of numbers alone: of each block the parameters, the rows behind a mark, and the end."""
    return name, "number", {number: plain_block(name, number, *block) for number, block in blocks.items()}
