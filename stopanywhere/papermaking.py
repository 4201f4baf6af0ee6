"""Papers of steps of rewriting: where the old code stands, and which places hold what."""

from stopanywhere.blocks import given_in, is_pure
from stopanywhere.inlining import Shift


def paper_of(bench, name, step, new_chart, told):
    """The paper of the code that a step makes, by its chart; told tells the formulas of places that went."""
    chart = bench.chart(name)
    formulas = {place: ("of", place, 1, 0) for place in new_chart.givers if place in chart.givers}
    for place in told:
        formulas[place] = told[place]
    found = {}
    for number in sorted(new_chart.blocks):
        facts = _facts(new_chart, number)
        if number in chart.blocks:
            found[number] = ((_level(chart, (number, 0), formulas),), facts, False)
        else:
            found[number] = _inlined_paper(bench, chart, step, number, formulas, facts)
    return found


def _inlined_paper(bench, chart, step, number, formulas, facts):
    """What the paper tells of a block that came in for a call, or of the one behind these."""
    _, block, at = step
    callee = bench.chart(chart.blocks[block][1][at][2])
    shift = Shift(chart, callee)
    if number == shift.behind:
        return (_level(chart, (block, at + 1), formulas),), facts, True
    inner = {place: ("of", other, 1, 0) for place, other in shift.others.items()}
    anchor = (_level(callee, (number - shift.blocks, 0), inner), _level(chart, (block, at), formulas))
    return anchor, facts, False


def _level(chart, spot, formulas):
    """A level at a spot, with the formulas of the places that are held there and can be told."""
    number, at = spot
    held = [place for place, _ in chart.blocks[number][0]]
    held.extend([row[0] for row in chart.blocks[number][1][:at] if row[0] is not None])
    for other in chart.nest.ahead_of(number)[:-1]:
        held.extend(given_in(chart.blocks[other]))
    return chart.name, number, at, {place: formulas[place] for place in sorted(held) if place in formulas}


def _facts(chart, number):
    """The pure rows of the other blocks that stand ahead of a block."""
    others = chart.nest.ahead_of(number)[:-1]
    return tuple([row for other in others for row in chart.blocks[other][1] if is_pure(row)])
