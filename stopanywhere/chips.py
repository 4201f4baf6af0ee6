"""The chip: images run, instruction by instruction."""

from stopanywhere.blocks import frames_of, is_context
from stopanywhere.chipparts import Chip
from stopanywhere.coding import read_instruction
from stopanywhere.errors import BadArguments, BadImage, BadMost, NoFunction
from stopanywhere.forms import Scope, scope_of_codes
from stopanywhere.holding import Holdings
from stopanywhere.imaging import instructions_in, read_out, read_plainly
from stopanywhere.picturing import pictured_end
from stopanywhere.values import ascending, is_list, is_number, is_number_between


def chip_begin(image, function, arguments):
    """The state at the first bit of a function."""
    if read_out(image) is None:
        raise BadImage("no image")
    return _begun(image, function, arguments)


def _begun(image, function, arguments):
    told = [blocks[0] for name, _, blocks in image[4] if name == function]
    if not told or not all([kind == "number" for _, kind in told[0][1]]):
        raise NoFunction(function)
    _, parameters, address, _ = told[0]
    if not is_list(arguments) or len(arguments) != len(parameters):
        raise BadArguments("no list of as many arguments as the function takes")
    if not all([isinstance(argument, bool) or is_number(argument) for argument in arguments]):
        raise BadArguments("an argument that is neither a number nor a truth")
    words = [int(argument) for argument in arguments]
    words.extend([0 for _ in range(image[1] - len(words))])
    return ((address, {}, None),), tuple(words), {}, (), None


def chip_step(image, state):
    """The state behind one instruction; at an end the same state."""
    chip = Chip(Scope(image[2], {}), state)
    if chip.end_told is None:
        told, behind = read_instruction(image[1], image[3], chip.address())
        chip.do(told, behind)
    return chip.state()


def chip_run(image, function, arguments, most):
    """The outputs, the end and the number of the instructions of a run of at most so many instructions."""
    found = read_out(image)
    if found is None:
        raise BadImage("no image")
    state = _begun(image, function, arguments)
    if not is_number_between(most, 0, 20000):
        raise BadMost("no number from 0 to 20000")
    scope = Scope(image[2], {})
    chip = Chip(scope, state)
    instructions = {address: (told, behind) for address, told, behind in instructions_in(image[1], image[3])}
    many = 0
    while many < most and chip.end_told is None:
        told, behind = instructions[chip.address()]
        chip.do(told, behind)
        many += 1
    kinds = {name: result for name, result, _ in image[4]}
    end = _traced_end(found, chip.end_told)
    return list(chip.shown), pictured_end(end, kinds[function], scope, chip.boxes()), many


def _traced_end(read, end):
    """An end with the points of the frames that ended in the place of their addresses."""
    if end is None or end[0] == "returned":
        return end
    plot, long = read
    codes = {code[0]: code[2] for code in plot.bundle[2]}
    trace = []
    for function, number, at in _spots(plot, long, end[2]):
        told = [frames_of(row) for row in codes[function][number][1][:at] if is_context(row)]
        trace.extend([(name, point) for name, point, _ in told[-1]])
    return "failed", end[1], tuple(trace)


def _spots(plot, long, addresses):
    """The spots at which frames stand at addresses, the last one ahead of its instruction, the others behind theirs."""
    starts = plot.addresses(long)
    ahead = {address: piece.spot for address, piece in zip(starts, plot.pieces)}
    behind = {address: piece.spot for address, piece in zip(starts[1:], plot.pieces)}
    return [behind[address] for address in addresses[:-1]] + [ahead[address] for address in addresses[-1:]]


def runner_state(image, state):
    """The frames, the heap, the shown numbers and the end as the runner of the placed code has them."""
    frames, registers, heap, shown, end = state
    read = read_plainly(image)
    plot, long = read
    codes = {code[0]: code for code in plot.bundle[2]}
    holdings = Holdings(codes, scope_of_codes(plot.bundle[3], plot.bundle[2]))
    spots = _spots(plot, long, [address for address, _, _ in frames])
    found = []
    for at, ((function, number, index), (_, slots, _)) in enumerate(zip(spots, frames)):
        places = [place for place in holdings.held_at(function, number, index) if place[0] == "s"]
        words = {place: slots[int(place[1:])] for place in places}
        if at == len(frames) - 1:
            for place in holdings.held_at(function, number, index):
                if place[0] == "r":
                    words[place] = registers[int(place[1:])]
        found.append((function, number, index, ascending(words)))
    boxes = {address: heap[address] for address in sorted(heap)}
    return tuple(found), boxes, tuple(shown), _traced_end(read, end)
