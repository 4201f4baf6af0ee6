"""A run of codes, row by row: frames at their spots over one heap."""

from stopanywhere.blocks import frames_of, is_context
from stopanywhere.holding import forget_registers
from stopanywhere.running import DIVIDED_BY_NOTHING, MOST_ITEMS, OUTSIDE_OF_ROW, reckoned


class Stand:
    """A frame: its function, the spot at which it stands, and the words of the places that it holds there.

    told are the frames that its marks and backs told last, for those who ask.
    """

    def __init__(self, function, block, at, places):
        self.function = function
        self.block = block
        self.at = at
        self.places = places
        self.told = ()


class Machine:
    """A run by tables, a dict from functions to pairs: their blocks, and by blocks what is held at first spots.

    The end is None until it comes; then there are no stands.
    """

    def __init__(self, tables, scope, stands, heap, shown, end_told):
        self._tables = tables
        self.scope = scope
        self.stands = stands
        self.heap = heap
        self.shown = shown
        self.end_told = end_told
        self._free = 1

    def advance(self):
        """Does one row or end; whether that is an event, apart from what the run then stands at."""
        stand = self.stands[-1]
        _, rows, end = self._block(stand)
        if stand.at == len(rows):
            action = END_ACTIONS[end[0]]
            return action(self, stand, end)
        row = rows[stand.at]
        action = ROW_ACTIONS[row[1]]
        return action(self, stand, row)

    def pass_one(self):
        """Does one row or end; how many events that brings, with what the run then stands at."""
        return int(self.advance()) + int(self.frames_to_tell() != ())

    def frames_to_tell(self):
        """The frames of the mark or back at which the run stands, () where it stands at none."""
        if not self.stands:
            return ()
        stand = self.stands[-1]
        _, rows, _ = self._block(stand)
        if stand.at < len(rows) and rows[stand.at][1] in ("mark", "back"):
            return frames_of(rows[stand.at])
        return ()

    def _block(self, stand):
        blocks, _ = self._tables[stand.function]
        return blocks[stand.block]

    def go_on(self, stand, row, word):
        """Goes on behind a row, which gives a word if it gives any."""
        if row[0] is not None:
            stand.places[row[0]] = word
        stand.at += 1
        return False

    def make_box(self, shape, words):
        """The address of a new box."""
        while self._free in self.heap:
            self._free += 1
        self.heap[self._free] = (shape, tuple(words))
        return self._free

    def lead(self, stand, number, words):
        """Goes on at the first spot of a block, with these words for its parameters."""
        blocks, starts = self._tables[stand.function]
        found = {place: word for place, word in stand.places.items() if place in starts[number]}
        for (place, _), word in zip(blocks[number][0], words):
            found[place] = word
        stand.block, stand.at, stand.places = number, 0, found
        return False

    def begin_call(self, stand, function, places):
        blocks, _ = self._tables[function]
        words = [stand.places[place] for place in places]
        forget_registers(stand.places)
        held = {place: word for (place, _), word in zip(blocks[0][0], words)}
        self.stands.append(Stand(function, 0, 0, held))
        return False

    def come_back(self, word):
        """Leaves the last frame, which returns a word."""
        self.stands.pop()
        if not self.stands:
            self.end_told = ("returned", word)
            return False
        stand = self.stands[-1]
        _, rows, end = self._block(stand)
        if stand.at == len(rows):
            self.lead(stand, end[3], [word])
        else:
            self.go_on(stand, rows[stand.at], word)
        return True

    def fail(self, number):
        """Leaves frames up to one that stands at a try, all if none does."""
        trace = self._trace()
        while self.stands:
            stand = self.stands[-1]
            _, rows, end = self._block(stand)
            if stand.at == len(rows) and end[0] == "try":
                self.lead(stand, end[4], [number])
                return True
            self.stands.pop()
        self.end_told = ("failed", number, trace)
        return False

    def _trace(self):
        """The points of all frames, as their nearest context rows tell them."""
        found = []
        for stand in self.stands:
            _, rows, _ = self._block(stand)
            told = [frames_of(row) for row in rows[:stand.at] if is_context(row)]
            found.extend([(function, point) for function, point, _ in told[-1]])
        return tuple(found)


def _pass_context(machine, stand, row):
    return machine.go_on(stand, row, 0)


def _const(machine, stand, row):
    return machine.go_on(stand, row, row[2])


def _copy(machine, stand, row):
    return machine.go_on(stand, row, stand.places[row[2]])


def _reckon(machine, stand, row):
    _, word, one, other = row
    return machine.go_on(stand, row, int(reckoned(word, stand.places[one], stand.places[other])))


def _turn(machine, stand, row):
    return machine.go_on(stand, row, int(stand.places[row[2]] == 0))


def _make(machine, stand, row):
    _, _, variant, places = row
    return machine.go_on(stand, row, machine.make_box(variant, [stand.places[place] for place in places]))


def _tag(machine, stand, row):
    box = machine.heap.get(stand.places[row[2]])
    if box is None:
        return machine.go_on(stand, row, 0)
    variants = machine.scope.variants(machine.scope.choice(box[0]))
    return machine.go_on(stand, row, variants.index(box[0]))


def _part(machine, stand, row):
    _, _, variant, part, place = row
    box = machine.heap.get(stand.places[place])
    return machine.go_on(stand, row, box[1][part] if box is not None and box[0] == variant else 0)


def _long(machine, stand, row):
    box = machine.heap.get(stand.places[row[3]])
    return machine.go_on(stand, row, 0 if box is None else len(box[1]))


def _divide(machine, stand, row):
    _, word, one, other = row
    number, divisor = stand.places[one], stand.places[other]
    if divisor == 0:
        return machine.fail(DIVIDED_BY_NOTHING)
    return machine.go_on(stand, row, number // divisor if word == "over" else number % divisor)


def _new(machine, stand, row):
    _, _, kind, length, item = row
    many = stand.places[length]
    if not 0 <= many <= MOST_ITEMS:
        return machine.fail(OUTSIDE_OF_ROW)
    return machine.go_on(stand, row, machine.make_box(kind, [stand.places[item] for _ in range(many)]))


def _at(machine, stand, row):
    _, _, _, place, index = row
    box = machine.heap.get(stand.places[place])
    at = stand.places[index]
    if box is None or not 0 <= at < len(box[1]):
        return machine.fail(OUTSIDE_OF_ROW)
    return machine.go_on(stand, row, box[1][at])


def _put(machine, stand, row):
    _, _, _, place, index, item = row
    address = stand.places[place]
    box = machine.heap.get(address)
    at = stand.places[index]
    if box is None or not 0 <= at < len(box[1]):
        return machine.fail(OUTSIDE_OF_ROW)
    kind, words = box
    machine.heap[address] = (kind, (*words[:at], stand.places[item], *words[at + 1:]))
    machine.go_on(stand, row, 0)
    return True


def _show(machine, stand, row):
    machine.shown.append(stand.places[row[2]])
    machine.go_on(stand, row, 0)
    return True


def _call(machine, stand, row):
    return machine.begin_call(stand, row[2], row[3])


def _jump(machine, stand, end):
    return machine.lead(stand, end[1], [stand.places[place] for place in end[2]])


def _branch(machine, stand, end):
    return machine.lead(stand, end[2] if stand.places[end[1]] != 0 else end[3], [])


def _return(machine, stand, end):
    return machine.come_back(stand.places[end[1]])


def _fail(machine, stand, end):
    return machine.fail(stand.places[end[1]])


def _try(machine, stand, end):
    return machine.begin_call(stand, end[1], end[2])


ROW_ACTIONS = {
    "const": _const, "copy": _copy, "plus": _reckon, "minus": _reckon, "times": _reckon, "less": _reckon,
    "atmost": _reckon, "same": _reckon, "not": _turn, "make": _make, "tag": _tag, "part": _part, "long": _long,
    "over": _divide, "rest": _divide, "new": _new, "at": _at, "put": _put, "show": _show, "call": _call,
    "mark": _pass_context, "back": _pass_context, "still": _pass_context,
}
END_ACTIONS = {"jump": _jump, "branch": _branch, "return": _return, "fail": _fail, "try": _try}
