"""Plots: bundles laid into instructions, block by block, whose leaps are told by where they lead."""

from stopanywhere.blocks import is_context
from stopanywhere.coding import INSTRUCTIONS, bits_of_instruction
from stopanywhere.values import is_number, is_tuple_of

SHORT_BITS = 9
LONG_BITS = 33
LEAST_SHORT = -128
MOST_SHORT = 127


def heads_of(word):
    """How many names and numbers of parts stand ahead of the places of a row's instruction."""
    letters = INSTRUCTIONS[word]
    return len(letters) - len(letters.lstrip("xk"))


def _instruction_of(row):
    """The instruction of a row that has bits, a call's without its leap."""
    place, word = row[:2]
    if word == "call":
        return ("call",)
    if place is None:
        return row[1:]
    heads = heads_of(word)
    return (word, *row[2:2 + heads], place, *row[2 + heads:])


class Piece:
    """An instruction without its leaps: the spot to which it belongs, and the blocks to which its leaps lead.

    Blocks are told by pairs (function, number).
    """

    def __init__(self, spot, told, targets):
        self.spot = spot
        self.told = told
        self.targets = targets
        # Where leaps follow, registers alone stand ahead of them.
        self.least_bits = 5 + 4 * (len(told) - 1) if targets else len(bits_of_instruction(told))


def pieces_of_block(code, number, behind):
    """The pieces of a block; behind is the number of the block that is laid directly behind it, or None."""
    name, _, blocks = code
    _, rows, end = blocks[number]
    found = []
    for at, row in enumerate(rows):
        if not is_context(row):
            targets = [(row[2], 0)] if row[1] == "call" else []
            found.append(Piece((name, number, at), _instruction_of(row), targets))
    told = _end_instructions(end, behind, found != [])
    for instruction, targets in told:
        leads = [target if isinstance(target, tuple) else (name, target) for target in targets]
        found.append(Piece((name, number, len(rows)), instruction, leads))
    return found


def _end_instructions(end, behind, has_bits):
    """The instructions of an end, without leaps, each with the blocks, or pairs, to which its leaps lead."""
    if end[0] == "jump":
        return [] if end[1] == behind and has_bits else [(("jump",), [end[1]])]
    if end[0] == "branch":
        _, place, block, other = end
        if other == behind:
            return [(("branch", place), [block])]
        if block == behind:
            return [(("unless", place), [other])]
        return [(("branch", place), [block]), (("jump",), [other])]
    if end[0] == "try":
        _, function, _, block, other = end
        found = [(("try",), [(function, 0), other])]
        return found if block == behind else found + [(("jump",), [block])]
    return [(("return",), [])] if end[0] == "return" else [(("fail", end[1]), [])]


class Plot:
    """A bundle laid by orders: its pieces in the order of the bits, and the names of their leaps."""

    def __init__(self, bundle, orders):
        self.bundle = bundle
        self.orders = orders
        self.pieces = []
        # By pairs (function, number) the index of a block's first piece, and that behind its last one.
        self.first = {}
        self.last = {}
        for code in bundle[2]:
            order = orders[code[0]]
            for number, behind in zip(order, [*order[1:], None]):
                self.first[(code[0], number)] = len(self.pieces)
                self.pieces.extend(pieces_of_block(code, number, behind))
                self.last[(code[0], number)] = len(self.pieces)
        self.leaps = []
        self._leaps_of = []
        counts = {}
        for piece in self.pieces:
            function, number, _ = piece.spot
            first = counts.get((function, number), 0)
            told = [(function, number, first + at) for at in range(len(piece.targets))]
            counts[(function, number)] = first + len(told)
            self._leaps_of.append(told)
            self.leaps.extend(told)
        self._names = {leap: True for leap in self.leaps}

    def has_leap(self, leap):
        """Whether a triple is the name of a leap."""
        return leap in self._names

    def addresses(self, long):
        """The addresses of the pieces, and behind them the number of all bits, if just these leaps are long."""
        is_long = {leap: True for leap in long}
        found = [0]
        for piece, leaps in zip(self.pieces, self._leaps_of):
            many = sum([LONG_BITS if leap in is_long else SHORT_BITS for leap in leaps])
            found.append(found[-1] + piece.least_bits + many)
        return found

    def distances(self, long):
        """The dict from all leaps to the distances that they tell, if just these are long."""
        addresses = self.addresses(long)
        found = {}
        for at, (piece, leaps) in enumerate(zip(self.pieces, self._leaps_of)):
            for leap, target in zip(leaps, piece.targets):
                found[leap] = addresses[self.first[target]] - addresses[at + 1]
        return found

    def far(self, long):
        """The leaps, in the order of the bits, that are not among these and do not reach as short ones."""
        is_long = {leap: True for leap in long}
        distances = self.distances(long)
        return [leap for leap in self.leaps if leap not in is_long and not is_near(distances[leap])]

    def bits(self, long):
        """All bits, if just these leaps are long."""
        is_long = {leap: True for leap in long}
        distances = self.distances(long)
        found = []
        for piece, leaps in zip(self.pieces, self._leaps_of):
            told = [("long" if leap in is_long else "short", distances[leap]) for leap in leaps]
            found.append(bits_of_instruction((*piece.told, *told)))
        return "".join(found)

    def spot_addresses(self, long):
        """The dict from all spots to their addresses; of one without bits that of what comes behind it."""
        addresses = self.addresses(long)
        found = {}
        for name, _, blocks in self.bundle[2]:
            for number in self.orders[name]:
                own = {}
                for at in range(self.first[(name, number)], self.last[(name, number)]):
                    own.setdefault(self.pieces[at].spot[2], addresses[at])
                behind = addresses[self.last[(name, number)]]
                for at in reversed(range(len(blocks[number][1]) + 1)):
                    behind = own.get(at, behind)
                    found[(name, number, at)] = behind
        return found


def is_near(distance):
    """Whether a short leap can tell a distance."""
    return LEAST_SHORT <= distance <= MOST_SHORT


def least_long(plot):
    """The ascending tuple of the leaps that are long in the least layout."""
    return tuple(sorted(reasons_of(plot)))


def reasons_of(plot):
    """The leaps that must be long, each for those ahead of it."""
    found = []
    far = plot.far(found)
    while far:
        # What does not reach is as far, or farther, when others become long.
        found.extend(far)
        far = plot.far(found)
    return found


def has_layout_form(plot, thing):
    """Whether any value is an ascending tuple of different leaps."""
    if not isinstance(thing, tuple) or not all([is_leap_name(plot, leap) for leap in thing]):
        return False
    return list(thing) == sorted(set(thing))


def is_leap_name(plot, thing):
    """Whether any value is one of the leaps."""
    if not is_tuple_of(thing, 3) or not isinstance(thing[0], str):
        return False
    return all([is_number(part) for part in thing[1:]]) and plot.has_leap(thing)


def is_layout_of(plot, thing):
    """Whether any value is a layout."""
    return has_layout_form(plot, thing) and plot.far(thing) == []
