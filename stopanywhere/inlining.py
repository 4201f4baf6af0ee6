"""Functions put in the place of their calls."""

from stopanywhere.blocks import end_leading, end_with, frames_of, given_in, is_context, leads_to, row_with
from stopanywhere.graphs import order_from
from stopanywhere.shapes import MOST_BLOCK, MOST_FRAMES, MOST_OF_PLACES, place_number

MOST_BLOCKS = 120
MOST_ROWS = 400
MOST_PLACES = 400


class Shift:
    """What is added to the numbers of the blocks and places of a function that comes in, and the block behind it."""

    def __init__(self, chart, callee):
        self.blocks = max(list(chart.blocks)) + 1
        self.places = _greatest_place(chart) + 1
        self.behind = self.blocks + max(list(callee.blocks)) + 1
        self.others = {place: f"v{place_number(place) + self.places}" for place in callee.givers}
        self.numbers = {number: number + self.blocks for number in callee.blocks}


def _greatest_place(chart):
    return max([place_number(place) for place in chart.givers])


def frames_around(chart, number, at):
    """The frames of the last context row ahead of a row in its block."""
    told = [frames_of(row) for row in chart.blocks[number][1][:at] if is_context(row)]
    return told[-1]


def inlined(chart, callee, number, at):
    """The blocks of a code with a function in the place of its call at a spot, if no way leads to them also."""
    shift = Shift(chart, callee)
    around = frames_around(chart, number, at)
    parameters, rows, end = chart.blocks[number]
    place, _, _, arguments = rows[at]
    found = {other: chart.blocks[other] for other in chart.blocks}
    found[number] = (parameters, rows[:at], ("jump", shift.blocks, arguments))
    for inner in callee.blocks:
        found[inner + shift.blocks] = _shifted(callee.blocks[inner], shift, around)
    back = (None, "back", around)
    found[shift.behind] = (((place, callee.result),), (back, *rows[at + 1:]), end)
    return found


def _shifted(block, shift, around):
    """A block of the function that comes in, with the frames of its call around its own ones."""
    parameters, rows, end = block
    told = tuple([(shift.others[place], kind) for place, kind in parameters])
    found = []
    for row in rows:
        other = row_with(row, shift.others)
        found.append((None, row[1], around + frames_of(other)) if is_context(row) else other)
    other_end = end_with(end_leading(end, shift.numbers), shift.others)
    if end[0] == "return":
        other_end = ("jump", shift.behind, (other_end[1],))
    return told, tuple(found), other_end


def come_to(blocks):
    """The ascending dict of the blocks to which a way from block 0 leads."""
    return {number: blocks[number] for number in sorted(order_from({at: leads_to(blocks[at][2]) for at in blocks}, 0))}


def is_inlined_too_large(chart, callee, number, at):
    """Whether the code would be too large with a function in the place of its call at a spot."""
    if any([end[0] == "return" for _, _, end in list(callee.blocks.values())]):
        # Then all blocks stay, so much can be told without making them.
        if len(chart.blocks) + len(callee.blocks) >= MOST_BLOCKS or _rows_of(chart) + _rows_of(callee) > MOST_ROWS:
            return True
        if len(chart.givers) + len(callee.givers) > MOST_PLACES:
            return True
    return _is_too_large(come_to(inlined(chart, callee, number, at)))


def _rows_of(chart):
    return sum([len(rows) for _, rows, _ in list(chart.blocks.values())])


def _is_too_large(blocks):
    rows = [row for _, inner, _ in list(blocks.values()) for row in inner]
    places = [place for block in list(blocks.values()) for place in given_in(block)]
    if len(blocks) > MOST_BLOCKS or len(rows) > MOST_ROWS or len(places) > MOST_PLACES:
        return True
    if max(list(blocks)) > MOST_BLOCK:
        return True
    if any([place_number(place) > MOST_OF_PLACES["v"] for place in places]):
        return True
    return any([len(frames_of(row)) > MOST_FRAMES for row in rows if is_context(row)])
