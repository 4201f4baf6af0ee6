"""The chip's parts: frames, registers and boxes, and what each instruction does with them."""

from stopanywhere.running import DIVIDED_BY_NOTHING, MOST_ITEMS, OUTSIDE_OF_ROW, reckoned
from stopanywhere.values import ascending


class Chip:
    """The machine. A frame is a list: its address, the dict of its slots, and its handler."""

    def __init__(self, scope, state):
        frames, registers, heap, shown, end = state
        self._scope = scope
        self._frames = [[address, {slot: slots[slot] for slot in slots}, handler] for address, slots, handler in frames]
        self._registers = list(registers)
        self._heap = {address: heap[address] for address in heap}
        self.shown = list(shown)
        self.end_told = end
        self._free = 1

    def state(self):
        frames = [(address, ascending(slots), handler) for address, slots, handler in self._frames]
        return tuple(frames), tuple(self._registers), ascending(self._heap), tuple(self.shown), self.end_told

    def boxes(self):
        return self._heap

    def address(self):
        """The address of the next instruction."""
        return self._frames[-1][0]

    def do(self, told, behind):
        """Does an instruction, behind which the next one stands at this address."""
        action = ACTIONS[told[0]]
        action(self, told, behind)

    def word(self, place):
        """What a register, or a slot of the running frame, holds."""
        number = int(place[1:])
        return self._registers[number] if place[0] == "r" else self._frames[-1][1][number]

    def give(self, place, word, behind):
        """Puts a word into a place, and goes on."""
        number = int(place[1:])
        if place[0] == "r":
            self._registers[number] = word
        else:
            self._frames[-1][1][number] = word
        self._frames[-1][0] = behind

    def go_on(self, address):
        self._frames[-1][0] = address

    def show(self, word, behind):
        self.shown.append(word)
        self.go_on(behind)

    def box(self, address):
        """The box at an address, None if there is none."""
        return self._heap.get(address)

    def put_box(self, address, shape, words):
        self._heap[address] = (shape, tuple(words))

    def make_box(self, shape, words):
        """The address of a new box."""
        while self._free in self._heap:
            self._free += 1
        self.put_box(self._free, shape, words)
        return self._free

    def number_of_variant(self, variant):
        return self._scope.variants(self._scope.choice(variant)).index(variant)

    def begin_frame(self, address, behind, handler):
        """Begins a frame at an address; the running one waits."""
        self._frames[-1][0] = behind
        self._frames[-1][2] = handler
        self._frames.append([address, {}, None])

    def come_back(self):
        """Takes the last frame away."""
        self._frames.pop()
        if self._frames:
            self._frames[-1][2] = None
        else:
            self.end_told = ("returned", self._registers[0])

    def fail(self, number):
        """Takes frames away up to one that has a handler, all if none has."""
        addresses = tuple([frame[0] for frame in self._frames])
        while self._frames and self._frames[-1][2] is None:
            self._frames.pop()
        if self._frames:
            frame = self._frames[-1]
            frame[0], frame[2] = frame[2], None
            self._registers[0] = number
        else:
            self.end_told = ("failed", number, addresses)


def _const(chip, told, behind):
    chip.give(told[1], told[2], behind)


def _copy(chip, told, behind):
    chip.give(told[1], chip.word(told[2]), behind)


def _reckon(chip, told, behind):
    word, place, one, other = told
    chip.give(place, int(reckoned(word, chip.word(one), chip.word(other))), behind)


def _divide(chip, told, behind):
    word, place, one, other = told
    number, divisor = chip.word(one), chip.word(other)
    if divisor == 0:
        chip.fail(DIVIDED_BY_NOTHING)
    else:
        chip.give(place, number // divisor if word == "over" else number % divisor, behind)


def _turn(chip, told, behind):
    chip.give(told[1], int(chip.word(told[2]) == 0), behind)


def _make(chip, told, behind):
    _, variant, place, places = told
    chip.give(place, chip.make_box(variant, [chip.word(other) for other in places]), behind)


def _tag(chip, told, behind):
    box = chip.box(chip.word(told[2]))
    chip.give(told[1], 0 if box is None else chip.number_of_variant(box[0]), behind)


def _part(chip, told, behind):
    _, variant, number, place, other = told
    box = chip.box(chip.word(other))
    chip.give(place, box[1][number] if box is not None and box[0] == variant else 0, behind)


def _long(chip, told, behind):
    box = chip.box(chip.word(told[3]))
    chip.give(told[2], 0 if box is None else len(box[1]), behind)


def _new(chip, told, behind):
    _, kind, place, length, item = told
    many = chip.word(length)
    if 0 <= many <= MOST_ITEMS:
        chip.give(place, chip.make_box(kind, [chip.word(item) for _ in range(many)]), behind)
    else:
        chip.fail(OUTSIDE_OF_ROW)


def _has_item(box, at):
    return box is not None and 0 <= at < len(box[1])


def _at(chip, told, behind):
    _, _, place, row, index = told
    box, at = chip.box(chip.word(row)), chip.word(index)
    if _has_item(box, at):
        chip.give(place, box[1][at], behind)
    else:
        chip.fail(OUTSIDE_OF_ROW)


def _put(chip, told, behind):
    _, _, row, index, item = told
    address, at = chip.word(row), chip.word(index)
    box = chip.box(address)
    if _has_item(box, at):
        chip.put_box(address, box[0], [*box[1][:at], chip.word(item), *box[1][at + 1:]])
        chip.go_on(behind)
    else:
        chip.fail(OUTSIDE_OF_ROW)


def _show(chip, told, behind):
    chip.show(chip.word(told[1]), behind)


def _call(chip, told, behind):
    chip.begin_frame(behind + told[1][1], behind, None)


def _try(chip, told, behind):
    chip.begin_frame(behind + told[1][1], behind, behind + told[2][1])


def _jump(chip, told, behind):
    chip.go_on(behind + told[1][1])


def _branch(chip, told, behind):
    is_taken = (chip.word(told[1]) != 0) == (told[0] == "branch")
    chip.go_on(behind + told[2][1] if is_taken else behind)


def _return(chip, told, behind):
    chip.come_back()


def _fail(chip, told, behind):
    chip.fail(chip.word(told[1]))


ACTIONS = {
    "const": _const, "copy": _copy, "plus": _reckon, "minus": _reckon, "times": _reckon, "over": _divide,
    "rest": _divide, "less": _reckon, "atmost": _reckon, "same": _reckon, "not": _turn, "make": _make, "tag": _tag,
    "part": _part, "long": _long, "new": _new, "at": _at, "put": _put, "show": _show, "call": _call, "jump": _jump,
    "branch": _branch, "unless": _branch, "try": _try, "return": _return, "fail": _fail,
}
