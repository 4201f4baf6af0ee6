"""Steps of rewriting by their form, and why one may not be done."""

from stopanywhere.blocks import is_context, is_pure, reads_of_row
from stopanywhere.graphs import least_way_past
from stopanywhere.inlining import is_inlined_too_large
from stopanywhere.shapes import is_place
from stopanywhere.sums import number_of
from stopanywhere.values import is_number

# What stands behind the words of steps: b the number of a block, i an index, n the number of a parameter, v a place.
STEPS = {
    "fold": "bi", "same": "biv", "alike": "bn", "twins": "bnn", "spare": "bn", "dead": "bi", "hoist": "bib",
    "merge": "b", "inline": "bi",
}


def has_step_form(thing):
    """Whether any value has the form of a step."""
    if not isinstance(thing, tuple) or thing == () or not isinstance(thing[0], str) or thing[0] not in STEPS:
        return False
    letters = STEPS[thing[0]]
    if len(thing) != len(letters) + 1:
        return False
    return all([_has_part_form(part, letter) for part, letter in zip(thing[1:], letters)])


def _has_part_form(part, letter):
    if letter == "v":
        return is_place(part) and part[0] == "v"
    return is_number(part) and part >= 0


def why_refused(bench, name, step):
    """The first reason why a step of the right form may not be done, None if it may be."""
    chart = bench.chart(name)
    if not _is_there(chart, step):
        return ("spot",)
    reason = REASONS[step[0]]
    return reason(bench, chart, step)


def _is_there(chart, step):
    """Whether the blocks, the rows or ends, the parameters and the place of a step are there."""
    letters = STEPS[step[0]]
    if not all([part in chart.blocks for part, letter in zip(step[1:], letters) if letter == "b"]):
        return False
    parameters, rows, _ = chart.blocks[step[1]]
    for part, letter in zip(step[2:], letters[1:]):
        if letter == "i" and part > len(rows):
            return False
        if letter == "n" and part >= len(parameters):
            return False
        if letter == "v" and part not in chart.givers:
            return False
    return True


def pure_row_at(chart, number, at):
    """The pure row at a spot, None if there is none."""
    rows = chart.blocks[number][1]
    return rows[at] if at < len(rows) and is_pure(rows[at]) else None


def _fold(bench, chart, step):
    _, number, at = step
    place = _foldable_place(chart, number, at)
    if place is None:
        return ("row",)
    return ("unlike",) if number_of(chart.terms()[place]) is None else None


def _foldable_place(chart, number, at):
    """The place that a row gives or a branch reads that may become a const or a jump, None if there is none."""
    _, rows, end = chart.blocks[number]
    if at == len(rows):
        return end[1] if end[0] == "branch" else None
    row = pure_row_at(chart, number, at)
    if row is None or row[1] == "const" or chart.kinds[row[0]] != "number":
        return None
    return row[0]


def _same(bench, chart, step):
    _, number, at, place = step
    row = pure_row_at(chart, number, at)
    if row is None or row[0] == place:
        return ("row",)
    if not chart.is_held(place, number, at):
        giver, _ = chart.givers[place]
        return "way", () if giver == number else least_way_past(chart.leads, 0, number, giver)
    if chart.kinds[place] != chart.kinds[row[0]]:
        return ("kind",)
    terms = chart.terms()
    return None if terms[place] == terms[row[0]] else ("unlike",)


def _has_fixed_parameters(chart, number):
    """Whether a block is block 0 or a block of a try."""
    return number == 0 or any([chart.blocks[other][2][0] == "try" for other in chart.leading[number]])


def _given_for(chart, number, at):
    """The pairs of a block whose end leads to a block with parameters and of the argument that it gives for one."""
    return [(other, chart.blocks[other][2][2][at]) for other in chart.leading[number]]


def _alike(bench, chart, step):
    _, number, at = step
    if _has_fixed_parameters(chart, number):
        return ("row",)
    place, standing = alike_places(chart, number, at)
    for other, argument in _given_for(chart, number, at):
        if argument not in (place, standing):
            return "gives", other
    return None


def alike_places(chart, number, at):
    """A parameter, and the first other place that an end gives for it."""
    place, _ = chart.blocks[number][0][at]
    others = [argument for _, argument in _given_for(chart, number, at) if argument != place]
    return place, others[0]


def _twins(bench, chart, step):
    _, number, at, later = step
    if _has_fixed_parameters(chart, number) or at >= later:
        return ("row",)
    (place, kind), (twin, other_kind) = chart.blocks[number][0][at], chart.blocks[number][0][later]
    if kind != other_kind:
        return ("kind",)
    for (other, one), (_, second) in zip(_given_for(chart, number, at), _given_for(chart, number, later)):
        if one != second and sorted([one, second]) != sorted([place, twin]):
            return "gives", other
    return None


def _spare(bench, chart, step):
    _, number, at = step
    if _has_fixed_parameters(chart, number):
        return ("row",)
    place, _ = chart.blocks[number][0][at]
    for other, index in chart.readers[place]:
        _, rows, end = chart.blocks[other]
        if index < len(rows) or end[:2] != ("jump", number) or end[2].count(place) > 1 or end[2][at] != place:
            return "read", (other, index)
    return None


def _dead(bench, chart, step):
    _, number, at = step
    row = pure_row_at(chart, number, at)
    if row is not None:
        read = chart.readers[row[0]]
        return ("read", read[0]) if read else None
    rows = chart.blocks[number][1]
    if at + 1 < len(rows) and rows[at][1] == "still" and is_context(rows[at + 1]):
        return None
    return ("row",)


def _hoist(bench, chart, step):
    _, number, at, to = step
    row = pure_row_at(chart, number, at)
    if row is None or to == number:
        return ("row",)
    if not chart.nest.stands_ahead(to, number):
        return "way", least_way_past(chart.leads, 0, number, to)
    for place in reads_of_row(row):
        giver, _ = chart.givers[place]
        if not chart.nest.stands_ahead(giver, to):
            return "way", least_way_past(chart.leads, 0, to, giver)
    return None


def _merge(bench, chart, step):
    _, number = step
    leading = chart.leading[number]
    if len(leading) > 1:
        return "ends", tuple(leading)
    if number == 0 or chart.blocks[leading[0]][2][0] != "jump":
        return ("row",)
    return None


def _inline(bench, chart, step):
    _, number, at = step
    rows = chart.blocks[number][1]
    if at == len(rows) or rows[at][1] != "call" or not bench.has(rows[at][2]):
        return ("row",)
    ring = bench.ring_through(rows[at][2])
    if ring is not None:
        return "ring", ring
    return ("large",) if is_inlined_too_large(chart, bench.chart(rows[at][2]), number, at) else None


REASONS = {
    "fold": _fold, "same": _same, "alike": _alike, "twins": _twins, "spare": _spare, "dead": _dead, "hoist": _hoist,
    "merge": _merge, "inline": _inline,
}
