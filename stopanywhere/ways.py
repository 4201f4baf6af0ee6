"""Ways through code: what is held at a spot, one numbering, and parameters that others stand for."""

from stopanywhere.blocks import given_in, leads_to
from stopanywhere.errors import BadCode, BadPlace, BadSpot
from stopanywhere.forms import is_named, is_placed
from stopanywhere.graphs import shortest_way
from stopanywhere.holding import held_at_starts, held_behind
from stopanywhere.tidying import standing_in, tidied, without_standing_in
from stopanywhere.values import ascending, is_number, is_number_between, is_tuple_of


def kinds_at(code, scope, spot):
    """The ascending dict from the places that are held ahead of a spot to their kinds."""
    if not is_named(code, scope) and not is_placed(code, scope, 9):
        raise BadCode("neither named code nor placed code for 9 registers")
    _, _, blocks = code
    _check_spot(blocks, spot)
    number, index = spot
    rows = blocks[number][1][:index]
    return ascending(held_behind(rows, scope, held_at_starts(code, scope)[number]))


def way_without(code, scope, spot, place):
    """A shortest way to a spot on which a place is not given, None if every one gives it."""
    _check_named(code, scope)
    _, _, blocks = code
    _check_spot(blocks, spot)
    givers = [number for number in blocks if place in given_in(blocks[number])]
    if not givers:
        raise BadPlace("no place that the code gives")
    number, index = spot
    parameters, rows, _ = blocks[number]
    if place in given_in((parameters, rows[:index], ())):
        return None
    leads = {other: leads_to(blocks[other][2]) for other in blocks}
    return shortest_way(leads, 0, number, givers[0])


def tidy(code, scope):
    """The code with its blocks and its places numbered in the order of being met first."""
    _check_named(code, scope)
    return tidied(code)


def are_alike(code, other, scope):
    """Whether two codes are equal but for the numbers of their blocks and places."""
    _check_named(code, scope)
    _check_named(other, scope)
    return tidied(code) == tidied(other)


def stand_ins(code, scope):
    """The dict from parameters to the places that stand for them, with all keys that there can be."""
    _check_named(code, scope)
    return standing_in(code)


def without_stand_ins(code, scope):
    """The code without the parameters that other places stand for."""
    _check_named(code, scope)
    return without_standing_in(code, standing_in(code))


def _check_named(code, scope):
    if not is_named(code, scope):
        raise BadCode("no named code")


def _check_spot(blocks, spot):
    """Refuses what is no pair of a block and the index of a row or, behind the rows, of the end."""
    if not is_tuple_of(spot, 2) or not is_number(spot[0]) or spot[0] not in blocks:
        raise BadSpot("no block of the code")
    if not is_number_between(spot[1], 0, len(blocks[spot[0]][1])):
        raise BadSpot("no row and no end of the block")
