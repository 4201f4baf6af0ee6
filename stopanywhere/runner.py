"""The runner: codes that are run row by row, from state to state."""

from stopanywhere.blocks import copy_of, given_in
from stopanywhere.errors import BadArguments, BadCodes, BadKinds, BadMost, BadState, NoFunction
from stopanywhere.forms import Scope, is_named, is_placed, is_startable, scope_of_codes
from stopanywhere.holding import Holdings
from stopanywhere.machine import Machine, Stand
from stopanywhere.parts import kinds_within
from stopanywhere.states import is_state_by
from stopanywhere.telling import Teller
from stopanywhere.values import ascending, is_list, is_number, is_number_between


class Codes:
    """Codes of different functions that are run together, all named or all placed; level tells which."""

    def __init__(self, kinds, codes):
        declared = Scope(kinds, {}).kinds
        known = ["number"] + [name for _, name, _ in declared]
        if not all([kind in known or kind == "truth" for told in declared for kind in kinds_within(told)]):
            raise BadKinds("a kind that is not among them")
        _check_forms(codes)
        scope = scope_of_codes(declared, codes)
        self.level = _level_of(codes)
        for at, code in enumerate(codes):
            if not _is_runnable(code, scope, known, self.level):
                raise BadCodes(at)
        self.kinds = declared
        self.scope = scope
        self.codes = ascending({code[0]: copy_of(code) for code in codes})
        self._holdings = Holdings(self.codes, scope)
        self._tellers = {}
        self._tables = {}
        for name, code in self.codes.items():
            self._tables[name] = (dict(code[2]), self._holdings.starts(name))

    def __eq__(self, other):
        return isinstance(other, Codes) and self.kinds == other.kinds and self.codes == other.codes

    def begin(self, function, arguments):
        """The state at the first spot of a function's code."""
        machine = self.begun(function, arguments)
        return state_of(machine, int(machine.frames_to_tell() != ()))

    def begun(self, function, arguments):
        """The machine at the first spot of a function's code."""
        if not isinstance(function, str) or function not in self._tables:
            raise NoFunction(function)
        blocks, _ = self._tables[function]
        parameters = blocks[0][0]
        if not all([kind == "number" for _, kind in parameters]):
            raise NoFunction(function)
        if not is_list(arguments) or len(arguments) != len(parameters):
            raise BadArguments("no list of as many arguments as the function takes")
        if not all([isinstance(argument, bool) or is_number(argument) for argument in arguments]):
            raise BadArguments("an argument that is neither a number nor a truth")
        places = {place: int(argument) for (place, _), argument in zip(parameters, arguments)}
        return Machine(self._tables, self.scope, [Stand(function, 0, 0, places)], {}, [], None)

    def step(self, state):
        """The state behind one row or end; at the end the same state."""
        return self._led(state, 1)

    def run(self, state, most):
        """The state behind so many rows and ends, or at the end."""
        self._check_state(state)
        if not is_number_between(most, 0, 20000):
            raise BadMost("no number from 0 to 20000")
        return self._led(state, most)

    def is_state(self, thing):
        """Whether any value has the form of a state of these codes."""
        return is_state_by(thing, self.codes, self.scope, self._holdings)

    def _check_state(self, state):
        if not self.is_state(state):
            raise BadState("no state of these codes")

    def _led(self, state, most):
        self._check_state(state)
        machine = self.machine_at(state)
        events = state[4]
        for _ in range(most):
            if machine.end_told is None:
                events += machine.pass_one()
        return state_of(machine, events)

    def machine_at(self, state):
        """The machine of a run that is in a state of these codes."""
        frames, heap, shown, end, _ = state
        stands = [Stand(function, block, at, dict(places)) for function, block, at, places in frames]
        boxes = {address: heap[address] for address in heap}
        return Machine(self._tables, self.scope, stands, boxes, list(shown), end)

    def teller(self, function):
        """What tells of the spots of a function's code."""
        if function not in self._tellers:
            self._tellers[function] = Teller(self.codes[function], self.scope)
        return self._tellers[function]


def state_of(machine, events):
    """The state of a machine behind so many events."""
    frames = [(stand.function, stand.block, stand.at, ascending(stand.places)) for stand in machine.stands]
    return tuple(frames), ascending(machine.heap), tuple(machine.shown), machine.end_told, events


def _check_forms(codes):
    if not is_list(codes) or len(codes) == 0:
        raise BadCodes(None)
    names = []
    for at, code in enumerate(codes):
        if not is_startable(code) or code[0] in names:
            raise BadCodes(at)
        names.append(code[0])


def _level_of(codes):
    """The level of the first code that gives a place; code without places is of both."""
    for _, _, blocks in codes:
        for number in sorted(blocks):
            for place in given_in(blocks[number]):
                return "named" if place[0] == "v" else "placed"
    return "named"


def _is_runnable(code, scope, known, level):
    """Whether a code takes and gives known kinds, and is code of this level."""
    _, result, blocks = code
    if not all([kind in known for kind in [result] + [told for _, told in blocks[0][0]]]):
        return False
    return is_named(code, scope) if level == "named" else is_placed(code, scope, 9)
