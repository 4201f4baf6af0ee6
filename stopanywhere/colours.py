"""Colours: as few numbers as can be for places, different ones for those that are alive at one spot."""

from stopanywhere.blocks import given_in, leads_to
from stopanywhere.errors import BadSlots
from stopanywhere.graphs import order_from
from stopanywhere.values import first_again, is_list, is_number_between
from stopanywhere.wants import alive_places, in_place_order


def most(code, slots):
    """The greatest number of free places that are alive at one spot, and the first spot where so many are."""
    _check_slots(code, slots)
    return _most_at(_free_alive(code, slots))


def colours(code, slots):
    """The dict, in place order, from the free places to as few numbers as can be."""
    _check_slots(code, slots)
    _, _, blocks = code
    alive = _free_alive(code, slots)
    found = {}
    # Blocks come behind those that stand ahead of them, so of two places that are alive at one spot the one that is
    # given later finds the other one alive: the least number that is free there is always less than the most.
    for number in order_from({other: leads_to(blocks[other][2]) for other in blocks}, 0):
        parameters, rows, _ = blocks[number]
        given = [[place for place, _ in parameters]] + [[row[0]] for row in rows]
        for places, beside in zip(given, alive[number]):
            for place in places:
                if place in beside:
                    found[place] = _least_free([found[other] for other in beside if other in found])
    return {place: found[place] for place in in_place_order(list(found))}


def _least_free(taken):
    number = 0
    while number in taken:
        number += 1
    return number


def is_colouring(code, slots, colouring):
    """Whether any value is such a dict from the free places to numbers."""
    _check_slots(code, slots)
    alive = _free_alive(code, slots)
    free = {place: True for lists in list(alive.values()) for places in lists for place in places}
    if not isinstance(colouring, dict) or len(colouring) != len(free):
        return False
    many, _, _ = _most_at(alive)
    if not all([place in colouring and is_number_between(colouring[place], 0, many - 1) for place in free]):
        return False
    lists = [places for told in list(alive.values()) for places in told]
    return all([first_again([colouring[place] for place in places]) is None for places in lists])


def _check_slots(code, slots):
    given = {place: True for block in list(code[2].values()) for place in given_in(block)}
    if not is_list(slots) or not all([isinstance(place, str) and place in given for place in slots]):
        raise BadSlots("no list of places that the code gives")
    if first_again(slots) is not None:
        raise BadSlots("one place twice")


def _free_alive(code, slots):
    """The dict from blocks to lists, one for each spot, of the free places that are alive there."""
    alive = alive_places(code[2])
    others = {place: True for place in slots}
    return {number: [_without(places, others) for places in alive[number]] for number in alive}


def _without(places, others):
    return [place for place in places if place not in others]


def _most_at(alive):
    """The greatest number of places at one spot, and the first spot where so many are."""
    found = (-1, 0, 0)
    for number in sorted(alive):
        for at, places in enumerate(alive[number]):
            if len(places) > found[0]:
                found = (len(places), number, at)
    return found
