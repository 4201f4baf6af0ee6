"""Forms of code: scopes, named code and placed code."""

from stopanywhere.blocks import frames_of, given_in, is_context, leads_to, reads_of_end, reads_of_row
from stopanywhere.errors import BadFunctions, BadKinds, BadRegisters, BadScope, Unknown
from stopanywhere.holding import blocks_in_order, end_finds, held_at_starts, pass_row, row_finds
from stopanywhere.parts import declared_names
from stopanywhere.shapes import is_code, place_number
from stopanywhere.trees import is_declaration, is_kind
from stopanywhere.values import first_again, is_list, is_number_between, is_tuple_of
from stopanywhere.words import is_name


class Scope:
    """What the names of kinds, variants and functions mean in code."""

    def __init__(self, kinds, functions):
        if not is_list(kinds) or not all([is_declaration(kind) for kind in kinds]):
            raise BadKinds("no list of declarations")
        if first_again([name for kind in kinds for name in declared_names(kind)]) is not None:
            raise BadKinds("two kinds or variants of one name")
        _check_functions(functions)
        self.kinds = tuple(sorted(kinds, key=lambda kind: kind[1]))
        self.functions = {name: _in_code(functions[name]) for name in sorted(functions)}
        self._told = dict(self.functions)
        self._declared = {kind[1]: kind for kind in self.kinds}
        self._cases = {}
        for word, name, told in self.kinds:
            if word == "choice":
                for variant, fields in told:
                    self._cases[variant] = (name, _kinds_in_code(fields))

    def __eq__(self, other):
        return isinstance(other, Scope) and self.kinds == other.kinds and self.functions == other.functions

    def choice(self, variant):
        """The kind that has a variant."""
        kind, _ = self._case(variant)
        return kind

    def variants(self, choice):
        """The tuple of the variants of a choice."""
        _, _, told = self._declaration(choice, "choice")
        return tuple([variant for variant, _ in told])

    def fields(self, variant):
        """The tuple of the kinds of the fields of a variant."""
        _, kinds = self._case(variant)
        return kinds

    def item(self, kind):
        """The kind of the items of a kind of rows."""
        _, _, told = self._declaration(kind, "row")
        return _kind_in_code(told)

    def takes(self, function):
        """The tuple of the kinds of the parameters of a function."""
        kinds, _ = self._function(function)
        return kinds

    def gives(self, function):
        """The kind of the result of a function."""
        _, kind = self._function(function)
        return kind

    def _case(self, variant):
        if not isinstance(variant, str) or variant not in self._cases:
            raise Unknown(variant)
        return self._cases[variant]

    def _declaration(self, kind, word):
        if not isinstance(kind, str) or kind not in self._declared or self._declared[kind][0] != word:
            raise Unknown(kind)
        return self._declared[kind]

    def _function(self, function):
        if not isinstance(function, str) or function not in self._told:
            raise Unknown(function)
        return self._told[function]


def _kind_in_code(kind):
    return "number" if kind == "truth" else kind


def _kinds_in_code(kinds):
    return tuple([_kind_in_code(kind) for kind in kinds])


def _in_code(told):
    parameters, result = told
    return _kinds_in_code(parameters), _kind_in_code(result)


def _check_functions(functions):
    if not isinstance(functions, dict) or not all([is_name(name) for name in functions]):
        raise BadFunctions(None)
    for name in sorted(functions):
        if not _is_told(functions[name]):
            raise BadFunctions(name)


def _is_told(thing):
    """Whether any value tells the kinds of the parameters and of the result of a function."""
    if not is_tuple_of(thing, 2) or not isinstance(thing[0], tuple) or len(thing[0]) > 3:
        return False
    return all([is_kind(kind) for kind in thing[0]]) and is_kind(thing[1])


def scope_of_codes(kinds, codes):
    """The scope of declared kinds and of the functions of codes; None for what is no list of such codes."""
    scope = Scope(kinds, {})
    if not is_list(codes) or not all([is_startable(code) for code in codes]):
        return None
    if first_again([name for name, _, _ in codes]) is not None:
        return None
    return scope_of_startable(scope.kinds, codes)


def scope_of_startable(kinds, codes):
    """The scope of kinds and of codes of different functions, all startable by their form."""
    functions = {}
    for name, result, blocks in codes:
        functions[name] = (tuple([kind for _, kind in blocks[0][0]]), result)
    return Scope(kinds, functions)


def is_startable(thing):
    """Whether any value has the form of a code with a block 0 of at most 3 parameters."""
    return is_code(thing) and 0 in thing[2] and len(thing[2][0][0]) <= 3


def is_named(thing, scope):
    """Whether any value is named code in a scope."""
    if not isinstance(scope, Scope):
        raise BadScope("no scope")
    if not is_startable(thing):
        return False
    # What is read or told must be held, and so given: no other places need be looked at.
    given = [place for block in list(thing[2].values()) for place in given_in(block)]
    if first_again(given) is not None or not all([place[0] == "v" for place in given]):
        return False
    return _is_right(thing, scope)


def is_placed(thing, scope, registers):
    """Whether any value is placed code in a scope for so many registers."""
    if not isinstance(scope, Scope):
        raise BadScope("no scope")
    if not is_number_between(registers, 6, 9):
        raise BadRegisters("no number from 6 to 9")
    return is_startable(thing) and keeps_placed_rules(thing, scope, registers)


def keeps_placed_rules(code, scope, registers):
    """Whether what is startable by its form is placed code in a scope for so many registers."""
    _, _, blocks = code
    for block in list(blocks.values()):
        if not all([_is_placed_for(place, registers) for place in given_in(block)]):
            return False
        if not _stands_in_registers(block):
            return False
    return _is_right(code, scope) and _has_placed_parameters(blocks)


def _is_placed_for(place, registers):
    return place[0] == "s" or (place[0] == "r" and place_number(place) < registers)


def _stands_in_registers(block):
    """Whether calls and ends take what they read from r0 on, and slots stand in copies and formulas alone."""
    _, rows, end = block
    for row in rows:
        if row[1] == "call" and (row[0] != "r0" or not _is_from_first(row[3])):
            return False
        slots = [place for place in [row[0]] + reads_of_row(row) if _is_slot(place)]
        if len(slots) > (1 if row[1] == "copy" else 0):
            return False
    read = reads_of_end(end)
    if end[0] in ("return", "try") and not _is_from_first(read):
        return False
    return not any([_is_slot(place) for place in read])


def _is_slot(place):
    return place is not None and place[0] == "s"


def _is_from_first(places):
    """Whether these are r0, r1 and so on."""
    return list(places) == [f"r{number}" for number in range(len(places))]


def _has_placed_parameters(blocks):
    """Whether blocks have no parameters but r0, r1 .. of block 0 and r0 of the blocks of a try.

    So jumps have no arguments either.
    """
    tried = {number: True for block in list(blocks.values()) for number in _tried_by(block[2])}
    for number in blocks:
        places = [place for place, _ in blocks[number][0]]
        if not _is_from_first(places) or (places != [] and number != 0 and number not in tried):
            return False
    return True


def _tried_by(end):
    return leads_to(end) if end[0] == "try" else []


def _is_right(code, scope):
    """Whether blocks, rows and ends are right, but for what named or placed code alone asks."""
    try:
        return _is_own(code, scope) and _leads_right(code, scope) and _finds_all(code, scope)
    except Unknown:
        return False


def _is_own(code, scope):
    """Whether the code is the function's, each block begins with a context row, and what rows name is there."""
    name, result, blocks = code
    kinds = tuple([kind for _, kind in blocks[0][0]])
    if scope.gives(name) != result or scope.takes(name) != kinds:
        return False
    for _, rows, _ in list(blocks.values()):
        if rows == () or not is_context(rows[0]):
            return False
        if not all([_is_known(row, name, scope) for row in rows]):
            return False
    return True


def _is_known(row, name, scope):
    """Whether the part, the kind of rows and the function that a row names by itself are there."""
    word = row[1]
    if is_context(row):
        return frames_of(row)[0][0] == name
    if word == "part":
        return row[3] < len(scope.fields(row[2]))
    if word == "long":
        # The scope refuses what is no kind of rows; of new, at and put it does so when it is asked what these read.
        scope.item(row[2])
    return True


def _leads_right(code, scope):
    """Whether ends lead to blocks as these must be led to, and all blocks are come to."""
    _, _, blocks = code
    led = [other for block in list(blocks.values()) for other in leads_to(block[2])]
    if 0 in led or not all([other in blocks for other in led]):
        return False
    times = {}
    for other in led:
        times[other] = times.get(other, 0) + 1
    for _, _, end in list(blocks.values()):
        if end[0] in ("branch", "try") and not _parts_right(end, blocks, times, scope):
            return False
    return len(blocks_in_order(blocks)) == len(blocks)


def _parts_right(end, blocks, times, scope):
    """Whether a branch or a try leads to two blocks of its own, with the parameters that they must have."""
    if not all([times[other] == 1 for other in leads_to(end)]):
        return False
    kinds = [[kind for _, kind in blocks[other][0]] for other in leads_to(end)]
    if end[0] == "branch":
        return kinds == [[], []]
    return kinds == [[scope.gives(end[1])], ["number"]]


def _finds_all(code, scope):
    """Whether all that is read or told is held there with its kind."""
    _, result, blocks = code
    starts = held_at_starts(code, scope)
    for number in blocks:
        _, rows, end = blocks[number]
        held = starts[number]
        for row in rows:
            if not row_finds(row, scope, held):
                return False
            pass_row(row, scope, held)
        if not end_finds(end, scope, held, blocks, result):
            return False
    return True
