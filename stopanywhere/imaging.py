"""Images, and what is read out of one again."""

from stopanywhere.blocks import frames_of, is_context
from stopanywhere.coding import INSTRUCTIONS, is_bit_string, read_instruction
from stopanywhere.objectforms import has_bundle_form, is_number_of_registers
from stopanywhere.ordering import are_orders
from stopanywhere.plots import Plot, heads_of, is_layout_of
from stopanywhere.shapes import CONTEXT_WORDS, is_block_number
from stopanywhere.values import ascending, is_number, is_tuple_of
from stopanywhere.words import is_name

LEAPING = ("jump", "branch", "unless", "try")
END_WORDS = ("jump", "branch", "unless", "try", "return", "fail")
# The words of the instructions of ends that do not go on into the block laid behind.
WHOLE_ENDS = (("jump",), ("branch", "jump"), ("try", "jump"))


def image_by(plot, long):
    """The image of what a plot lays, if just some leaps are long."""
    bundle = plot.bundle
    addresses = plot.spot_addresses(long)
    table = []
    for name, result, blocks in bundle[2]:
        told = []
        for number in plot.orders[name]:
            parameters, rows, _ = blocks[number]
            marks = []
            for at, row in enumerate(rows):
                if is_context(row):
                    marks.append((addresses[(name, number, at)], row[1], frames_of(row)))
            told.append((number, parameters, addresses[(name, number, 0)], tuple(marks)))
        table.append((name, result, tuple(told)))
    return "image", bundle[1], bundle[3], plot.bits(long), tuple(table)


def has_image_form(thing):
    """Whether any value has the form of an image, as far as what is read out of it does not show."""
    if not is_tuple_of(thing, 5) or thing[0] != "image" or not is_number_of_registers(thing[1]):
        return False
    _, _, kinds, bits, table = thing
    if not isinstance(kinds, tuple) or not is_bit_string(bits) or not isinstance(table, tuple):
        return False
    return all([_is_part(part) for part in table])


def _is_part(thing):
    """Whether any value has the form of what a table tells of a function."""
    if not is_tuple_of(thing, 3) or not is_name(thing[0]) or not isinstance(thing[2], tuple) or thing[2] == ():
        return False
    return all([_is_block(block) for block in thing[2]])


def _is_block(thing):
    if not is_tuple_of(thing, 4) or not is_block_number(thing[0]) or not isinstance(thing[1], tuple):
        return False
    if not is_number(thing[2]) or not isinstance(thing[3], tuple):
        return False
    return all([is_tuple_of(mark, 3) and is_number(mark[0]) and mark[1] in CONTEXT_WORDS for mark in thing[3]])


def read_out(image):
    """The plot and the long leaps of an image; None for any value that is none."""
    if not has_image_form(image):
        return None
    found = read_plainly(image)
    if found is None:
        return None
    plot, long = found
    return found if is_layout_of(plot, long) and image_by(plot, long) == image else None


def read_plainly(image):
    """The plot and the long leaps that an image tells, but for whether it is right; None where it tells none."""
    _, registers, kinds, bits, table = image
    instructions = instructions_in(registers, bits)
    if instructions is None:
        return None
    reader = BlockReader(table, instructions, len(bits))
    codes = []
    for name, result, told in table:
        blocks = {}
        for at, block in enumerate(told):
            found = reader.block(name, block, told[at + 1][0] if at + 1 < len(told) else None)
            if found is None or block[0] in blocks:
                return None
            blocks[block[0]] = found
        codes.append((name, result, ascending(blocks)))
    bundle = ("bundle", registers, tuple(codes), kinds)
    orders = {part[0]: tuple([block[0] for block in part[2]]) for part in table}
    if not has_bundle_form(bundle) or not are_orders(bundle, orders):
        return None
    return Plot(bundle, orders), tuple(sorted(reader.long))


def instructions_in(registers, bits):
    """The list of the triples (address, instruction, address behind) of which bits consist; None if they do not."""
    found = []
    at = 0
    while at < len(bits):
        told = read_instruction(registers, bits, at)
        if told is None:
            return None
        found.append((at, told[0], told[1]))
        at = told[1]
    return found


class BlockReader:
    """What reads blocks out of instructions, by the table of an image; long are the long leaps met so far."""

    def __init__(self, table, instructions, many):
        self._instructions = instructions
        self._indexes = {address: at for at, (address, _, _) in enumerate(instructions)}
        self._indexes[many] = len(instructions)
        starts = [block[2] for part in table for block in part[2]]
        # The first bit behind each block is that of the next one, in whatever function.
        self._behind = dict(zip(starts, [*starts[1:], many]))
        self._functions = {part[2][0][2]: part[0] for part in table}
        self._many = {part[0]: len(part[2][0][1]) for part in table}
        self._blocks = {(part[0], block[2]): block[0] for part in table for block in part[2]}
        self.long = []

    def block(self, name, told, following):
        """A block of a function; following is the number of the one laid behind it, None if there is none."""
        number, parameters, address, marks = told
        first, last = self._indexes.get(address), self._indexes.get(self._behind[address])
        if first is None or last is None or first >= last:
            return None
        instructions = self._instructions[first:last]
        self._note_leaps(name, number, instructions)
        ending = [part for part in instructions if part[1][0] in END_WORDS]
        rows = [part for part in instructions if part[1][0] not in END_WORDS]
        if instructions != rows + ending:
            return None
        end = self._end(name, ending, following)
        found = [(at, self._row(told_row, behind)) for at, told_row, behind in rows]
        if end is None or None in [row for _, row in found]:
            return None
        return parameters, tuple(_rows_with_marks(found, marks)), end

    def _note_leaps(self, name, number, instructions):
        leaps = []
        for _, told, _ in instructions:
            leaps.extend([part for part, letter in zip(told[1:], INSTRUCTIONS[told[0]]) if letter == "l"])
        self.long.extend([(name, number, at) for at, leap in enumerate(leaps) if leap[0] == "long"])

    def _row(self, told, behind):
        """The row of an instruction, None if it leads to no function."""
        word = told[0]
        if word == "call":
            function = self._functions.get(behind + told[1][1])
            return None if function is None else ("r0", "call", function, self._taken(function))
        if word in ("put", "show"):
            return (None, *told)
        heads = heads_of(word)
        return (told[1 + heads], word, *told[1:1 + heads], *told[2 + heads:])

    def _taken(self, function):
        return tuple([f"r{at}" for at in range(self._many[function])])

    def _end(self, name, ending, following):
        """The end of a block by its last instructions, None if it is none, or leads to no block of the function."""
        words = [told[0] for _, told, _ in ending]
        first = ending[0][1] if ending else ()
        if words in (["return"], ["fail"]):
            return ("return", "r0") if words == ["return"] else first
        # The blocks to which the last leap of each instruction leads, and the one that is laid behind.
        leads = [self._blocks.get((name, behind + told[-1][1])) for _, told, behind in ending if told[0] in LEAPING]
        if len(leads) < len(words) or None in leads or (tuple(words) not in WHOLE_ENDS and following is None):
            return None
        leads.append(following)
        if words in ([], ["jump"]):
            return "jump", leads[0], ()
        if words in (["branch"], ["branch", "jump"]):
            return "branch", first[1], leads[0], leads[1]
        if words == ["unless"]:
            return "branch", first[1], following, leads[0]
        return self._try_end(ending, leads) if words in (["try"], ["try", "jump"]) else None

    def _try_end(self, ending, leads):
        _, told, behind = ending[0]
        function = self._functions.get(behind + told[1][1])
        if function is None:
            return None
        return "try", function, self._taken(function), leads[1], leads[0]


def _rows_with_marks(rows, marks):
    """Rows, with their addresses, and context rows, each ahead of the row at its address."""
    found = []
    coming = list(marks)
    for address, row in rows:
        while coming and coming[0][0] <= address:
            _, word, frames = coming.pop(0)
            found.append((None, word, frames))
        found.append(row)
    return found + [(None, word, frames) for _, word, frames in coming]
