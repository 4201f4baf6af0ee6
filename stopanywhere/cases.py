"""Cases for the judge: a new code beside the old codes of a scope, and whether a paper has the form that it must."""

from stopanywhere.blocks import is_pure, reads_of_row
from stopanywhere.errors import BadCode, BadCodes, BadScope, Unknown
from stopanywhere.forms import Scope, is_named, is_placed
from stopanywhere.holding import Holdings, formula_finds, given_kind, row_finds
from stopanywhere.shapes import MOST_FRAMES, is_formula, is_place, is_row
from stopanywhere.values import first_again, is_number, is_number_between, is_tuple_of
from stopanywhere.words import is_name


def are_old_codes(scope, thing):
    """Whether any value is a dict from names to codes of these names, all named or all placed for 9 registers."""
    if not isinstance(thing, dict) or not all([is_name(name) for name in thing]):
        return False
    codes = list(thing.values())
    if not all([is_named(code, scope) for code in codes]) and not all([is_placed(code, scope, 9) for code in codes]):
        return False
    return all([thing[name][0] == name for name in thing])


def checked_case(scope, codes, code):
    """The case of a new code; refuses what is no scope, no old codes or no new code."""
    if not isinstance(scope, Scope):
        raise BadScope("no scope")
    if not are_old_codes(scope, codes):
        raise BadCodes(None)
    if not (is_named(code, scope) or is_placed(code, scope, 9)) or code[0] not in codes:
        raise BadCode("no code of one of the functions")
    return Case(scope, codes, code, Holdings(codes, scope))


class Case:
    """A new code beside the codes whose functions it is one of.

    held tells what these codes hold where, new_held the kinds of what the new code holds at its blocks' first spots.
    """

    def __init__(self, scope, codes, code, held):
        self.scope = scope
        self.codes = codes
        self.code = code
        self.held = held
        self.new_held = Holdings({code[0]: code}, scope).starts(code[0])

    def is_paper(self, thing):
        """Whether any value is a paper of the new code."""
        blocks = self.code[2]
        if not isinstance(thing, dict) or len(thing) != len(blocks):
            return False
        if not all([is_number(number) and number in blocks for number in thing]):
            return False
        if not all([self._is_part(number, thing[number]) for number in thing]):
            return False
        return self._is_first_part(thing[0])

    def _is_part(self, number, thing):
        """Whether any value is what a paper tells of a block."""
        if not is_tuple_of(thing, 3) or not isinstance(thing[2], bool):
            return False
        anchor, facts, late = thing
        held = self.new_held[number]
        if late and self.code[2][number][1][0][1] != "back":
            return False
        return self._is_anchor(anchor, held) and self._are_facts(facts, held)

    def _is_first_part(self, part):
        """Whether this is what a paper may tell of block 0, if it is what it may tell of some block."""
        anchor, facts, late = part
        if len(anchor) != 1 or anchor[0][1:3] != (0, 0) or facts != () or late:
            return False
        old_parameters = self.codes[self.code[0]][2][0][0]
        equations = {}
        for (old, _), (new, _) in zip(old_parameters, self.code[2][0][0]):
            equations[old] = ("of", new, 1, 0)
        return all([equations.get(place) == formula for place, formula in anchor[0][3].items()])

    def _is_anchor(self, thing, held):
        if not isinstance(thing, tuple) or not 1 <= len(thing) <= MOST_FRAMES:
            return False
        called = None
        for level in thing:
            if not self._is_level(level, called, held):
                return False
            called = level[0]
        return called == self.code[0]

    def _is_level(self, thing, called, held):
        """Whether any value is a level, of an anchor, that waits for a called function if there is one."""
        if not is_tuple_of(thing, 4):
            return False
        function, number, at, equations = thing
        if not isinstance(function, str) or function not in self.codes:
            return False
        blocks = self.codes[function][2]
        if not is_number(number) or number not in blocks or not is_number_between(at, 0, len(blocks[number][1])):
            return False
        if called is not None:
            rows = blocks[number][1]
            if at == len(rows) or rows[at][1:3] != ("call", called):
                return False
        return self._are_equations(equations, self.held.held_at(function, number, at), held)

    def _are_equations(self, thing, old_held, held):
        if not isinstance(thing, dict) or not all([is_place(place) and place in old_held for place in thing]):
            return False
        return all([self._is_equation(old_held[place], formula, held) for place, formula in thing.items()])

    def _is_equation(self, kind, formula, held):
        if not is_formula(formula) or has_lost(formula):
            return False
        try:
            return formula_finds(formula, kind, self.scope, held)
        except Unknown:
            return False

    def _are_facts(self, thing, held):
        if not isinstance(thing, tuple) or not all([is_row(row) and is_pure(row) for row in thing]):
            return False
        if first_again([row[0] for row in thing]) is not None:
            return False
        given = {}
        for row in reversed(thing):
            given[row[0]] = True
            if any([place in given for place in reads_of_row(row)]) or not self._is_fact(row, held):
                return False
        return True

    def _is_fact(self, row, held):
        """Whether all places of a pure row are held with their kinds."""
        if row[0] not in held:
            return False
        try:
            if row[1] == "part" and row[3] >= len(self.scope.fields(row[2])):
                return False
            if row[1] == "long":
                # The scope refuses what is no kind of rows.
                self.scope.item(row[2])
            return row_finds(row, self.scope, held) and given_kind(row, self.scope, held) == held[row[0]]
        except Unknown:
            return False


def has_lost(formula):
    """Whether a formula, or one in it, is lost."""
    if formula[0] == "make":
        return any([has_lost(part) for part in formula[2]])
    return formula == ("lost",)
