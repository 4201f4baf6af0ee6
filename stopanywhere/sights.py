"""What is in sight: in a unit its kinds, variants and functions, in a function its variables."""

from stopanywhere.errors import BadFaces, BadUnit
from stopanywhere.faceforms import are_faces_of
from stopanywhere.parts import blocks_of, does_statement_end, names_let
from stopanywhere.trees import is_unit


def check_unit(unit, faces):
    if not is_unit(unit):
        raise BadUnit("no unit")
    if not are_faces_of(unit[2], faces):
        raise BadFaces("no faces of the units that are used")


class Sight:
    """The kinds, variants and functions in sight in a unit.

    Of one name the first one counts, faces ahead of the unit. declared tells the declarations by the names of their
    kinds, cases the choice and the kinds of the fields by variants, counts how many parameters functions have, and
    others the kinds of parameters and result of the functions of faces.
    """

    def __init__(self, unit, faces):
        self.declared = {}
        self.cases = {}
        self.counts = {}
        self.others = {}
        for name in sorted(faces):
            _, _, kinds, functions = faces[name]
            self._declare(kinds)
            for function, parameters, result in functions:
                self.counts.setdefault(function, len(parameters))
                self.others.setdefault(function, (parameters, result))
        self._declare(unit[3])
        for function in unit[4]:
            self.counts.setdefault(function[1], len(function[2]))

    def _declare(self, kinds):
        for declaration in kinds:
            self.declared.setdefault(declaration[1], declaration)
            if declaration[0] == "choice":
                for variant, fields in declaration[2]:
                    self.cases.setdefault(variant, (declaration[1], fields))

    def is_known(self, kind):
        """Whether this is a kind in sight."""
        return kind in ("number", "truth") or kind in self.declared

    def is_row(self, kind):
        """Whether this is a kind of rows in sight."""
        return kind in self.declared and self.declared[kind][0] == "row"

    def part_of(self, kind):
        """The kind of the items of a kind of rows in sight."""
        return self.declared[kind][2]

    def variants_of(self, kind):
        """The variants of a choice in sight, in their order; of a kind of rows none."""
        if self.is_row(kind):
            return []
        return [variant for variant, _ in self.declared[kind][2]]


def passages(function):
    """What each statement of a function meets when it begins, by points.

    Each is a triple: the statement, the tuple of the variables in sight, whether a statement that ends stands
    directly ahead of it in its block.
    """
    found = []
    _pass_block(function[3], list(function[2]), found)
    return found


def _pass_block(block, names, found):
    seen = list(names)
    ended = False
    for statement in block:
        found.append((statement, _each_once(seen), ended))
        if statement[0] == "match":
            for _, branch_names, inner in statement[2]:
                _pass_block(inner, seen + list(branch_names), found)
        else:
            for inner in blocks_of(statement):
                _pass_block(inner, seen, found)
            if statement[0] in ("let", "try"):
                seen.append(statement[1])
        ended = does_statement_end(statement)


def _each_once(names):
    return tuple(list({name: True for name in names}))


def variables_of(function):
    """The names that a function lets, in the order of its text; a parameter that is let again counts, too."""
    return [name for statement, _, _ in passages(function) for name in names_let(statement)]
