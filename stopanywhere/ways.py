"""Ways through code: what is held at a spot, one numbering, and parameters that others stand for."""

from stopanywhere.blocks import given_in, leads_to
from stopanywhere.checks import check_named, check_spot
from stopanywhere.errors import BadCode, BadPlace
from stopanywhere.forms import is_named, is_placed
from stopanywhere.graphs import shortest_way
from stopanywhere.holding import held_at_starts, held_behind
from stopanywhere.tidying import standing_in, tidied, without_standing_in
from stopanywhere.values import ascending


def kinds_at(code, scope, spot):
    """The ascending dict from the places that are held ahead of a spot to their kinds."""
    if not is_named(code, scope) and not is_placed(code, scope, 9):
        raise BadCode("neither named code nor placed code for 9 registers")
    _, _, blocks = code
    check_spot(blocks, spot)
    number, index = spot
    rows = blocks[number][1][:index]
    return ascending(held_behind(rows, scope, held_at_starts(code, scope)[number]))


def way_without(code, scope, spot, place):
    """A shortest way to a spot on which a place is not given, None if every one gives it."""
    check_named(scope, code)
    _, _, blocks = code
    check_spot(blocks, spot)
    givers = [number for number in blocks if place in given_in(blocks[number])]
    if not givers:
        raise BadPlace("no place that the code gives")
    number, index = spot
    parameters, rows, _ = blocks[number]
    if place in given_in((parameters, rows[:index], ())):
        return None
    leads = {other: leads_to(blocks[other][2]) for other in blocks}
    return shortest_way(leads, 0, number, givers[0])


def tidy(code, scope):
    """The code with its blocks and its places numbered in the order of being met first."""
    check_named(scope, code)
    return tidied(code)


def are_alike(code, other, scope):
    """Whether two codes are equal but for the numbers of their blocks and places."""
    check_named(scope, code)
    check_named(scope, other)
    return tidied(code) == tidied(other)


def stand_ins(code, scope):
    """The dict from parameters to the places that stand for them, with all keys that there can be."""
    check_named(scope, code)
    return standing_in(code)


def without_stand_ins(code, scope):
    """The code without the parameters that other places stand for."""
    check_named(scope, code)
    return without_standing_in(code, standing_in(code))

