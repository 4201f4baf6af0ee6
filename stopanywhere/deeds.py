"""Steps of rewriting that may be done, done."""

from stopanywhere.blocks import is_context
from stopanywhere.inlining import come_to, inlined
from stopanywhere.refusing import alike_places
from stopanywhere.retelling import row_retold, story_of
from stopanywhere.sums import number_of
from stopanywhere.tidying import end_without, replaced


def done(bench, name, step):
    """The pair of the new code and of the dict from the places that went, and can be told otherwise, to formulas."""
    chart = bench.chart(name)
    deed = DEEDS[step[0]]
    blocks, told = deed(bench, chart, step)
    return (chart.name, chart.result, come_to(blocks)), told


def with_block(blocks, number, block):
    """Blocks with another one of this number."""
    found = {other: blocks[other] for other in blocks}
    found[number] = block
    return found


def _fold(bench, chart, step):
    _, number, at = step
    parameters, rows, end = chart.blocks[number]
    if at < len(rows):
        place = rows[at][0]
        row = (place, "const", number_of(chart.terms()[place]))
        return with_block(chart.blocks, number, (parameters, (*rows[:at], row, *rows[at + 1:]), end)), {}
    _, place, first, second = end
    decided = second if number_of(chart.terms()[place]) == 0 else first
    return with_block(chart.blocks, number, (parameters, rows, ("jump", decided, ()))), {}


def _replace(chart, place, other):
    return replaced(chart.blocks, {place: other}), {place: ("of", other, 1, 0)}


def _same(bench, chart, step):
    _, number, at, place = step
    return _replace(chart, chart.blocks[number][1][at][0], place)


def _alike(bench, chart, step):
    _, number, at = step
    place, other = alike_places(chart, number, at)
    return _replace(chart, place, other)


def _twins(bench, chart, step):
    _, number, at, later = step
    parameters = chart.blocks[number][0]
    return _replace(chart, parameters[later][0], parameters[at][0])


def _spare(bench, chart, step):
    _, number, at = step
    place, _ = chart.blocks[number][0][at]
    gone = {place: True}
    found = {}
    for other in chart.blocks:
        parameters, rows, end = chart.blocks[other]
        kept = tuple([parameter for parameter in parameters if parameter[0] != place])
        found[other] = (kept, _rows_retold(rows, place, None), end_without(end, chart.blocks, gone))
    return found, {}


def _rows_retold(rows, place, story):
    return tuple([row_retold(row, place, story) if is_context(row) else row for row in rows])


def _dead(bench, chart, step):
    _, number, at = step
    parameters, rows, end = chart.blocks[number]
    row = rows[at]
    found = with_block(chart.blocks, number, (parameters, (*rows[:at], *rows[at + 1:]), end))
    if is_context(row):
        return found, {}
    place = row[0]
    story = story_of(row, chart.blocks, chart.givers)
    for other in list(found):
        parameters, rows, end = found[other]
        found[other] = (parameters, _rows_retold(rows, place, story), end)
    return found, {} if story is None else {place: story}


def _hoist(bench, chart, step):
    _, number, at, to = step
    parameters, rows, end = chart.blocks[number]
    found = with_block(chart.blocks, number, (parameters, (*rows[:at], *rows[at + 1:]), end))
    other_parameters, other_rows, other_end = chart.blocks[to]
    return with_block(found, to, (other_parameters, (*other_rows, rows[at]), other_end)), {}


def _merge(bench, chart, step):
    _, number = step
    ahead = chart.leading[number][0]
    arguments = chart.blocks[ahead][2][2]
    others = {place: argument for (place, _), argument in zip(chart.blocks[number][0], arguments)}
    found = replaced(chart.blocks, others)
    parameters, rows, _ = found[ahead]
    _, more_rows, end = found.pop(number)
    found[ahead] = (parameters, rows + more_rows, end)
    return found, {place: ("of", others[place], 1, 0) for place in others}


def _inline(bench, chart, step):
    _, number, at = step
    callee = bench.chart(chart.blocks[number][1][at][2])
    return inlined(chart, callee, number, at), {}


DEEDS = {
    "fold": _fold, "same": _same, "alike": _alike, "twins": _twins, "spare": _spare, "dead": _dead, "hoist": _hoist,
    "merge": _merge, "inline": _inline,
}
