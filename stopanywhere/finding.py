"""Finding steps of rewriting that may be done."""

from stopanywhere.blocks import is_context, is_pure
from stopanywhere.refusing import why_refused


def steps_in_block(bench, name, word, number):
    """The ascending list of the steps with a word, and with this block ahead, that may be done."""
    chart = bench.chart(name)
    find = CANDIDATES[word]
    steps = [(word, number, *rest) for rest in find(chart, number)]
    return [step for step in steps if why_refused(bench, name, step) is None]


def all_steps(bench, name, word):
    """The ascending list of all steps with a word that may be done."""
    found = []
    for number in sorted(bench.chart(name).blocks):
        found.extend(steps_in_block(bench, name, word, number))
    return found


def first_step(bench, name, words):
    """The first step of the first of the words that has one, None if none has."""
    numbers = sorted(bench.chart(name).blocks)
    for word in words:
        for number in numbers:
            steps = steps_in_block(bench, name, word, number)
            if steps:
                return steps[0]
    return None


def _any_pure(chart, number):
    return [(at,) for at, row in enumerate(chart.blocks[number][1]) if is_pure(row)]


def _any_pure_or_end(chart, number):
    return [*_any_pure(chart, number), (len(chart.blocks[number][1]),)]


def _any_but_acting(chart, number):
    return [(at,) for at, row in enumerate(chart.blocks[number][1]) if is_pure(row) or is_context(row)]


def _any_call(chart, number):
    return [(at,) for at, row in enumerate(chart.blocks[number][1]) if row[1] == "call"]


def _any_parameter(chart, number):
    return [(at,) for at in range(len(chart.blocks[number][0]))]


def _any_pair(chart, number):
    many = len(chart.blocks[number][0])
    return [(at, later) for at in range(many) for later in range(at + 1, many)]


def _any_equal(chart, number):
    """Of the pure rows the places of their kinds and terms that are held there."""
    found = []
    for (at,) in _any_pure(chart, number):
        places = chart.places_like(chart.blocks[number][1][at][0])
        found.extend([(at, place) for place in places if chart.is_held(place, number, at)])
    return found


def _any_ahead(chart, number):
    others = sorted(chart.nest.ahead_of(number))
    return [(at, to) for (at,) in _any_pure(chart, number) for to in others if to != number]


def _itself(chart, number):
    return [()]


CANDIDATES = {
    "fold": _any_pure_or_end, "same": _any_equal, "alike": _any_parameter, "twins": _any_pair, "spare": _any_parameter,
    "dead": _any_but_acting, "hoist": _any_ahead, "merge": _itself, "inline": _any_call,
}
