"""Which places are wanted at each spot of named or placed code, and which are alive."""

from stopanywhere.blocks import leads_to, reads_of_end, reads_of_row
from stopanywhere.graphs import order_from
from stopanywhere.holding import forget_registers
from stopanywhere.shapes import place_number

SORTS = {"v": 0, "r": 1, "s": 2}


def in_place_order(places):
    """Named places by their numbers; of placed ones registers by their numbers, then slots by theirs."""
    return sorted(places, key=_place_order)


def _place_order(place):
    return SORTS[place[0]], place_number(place)


def wanted_at_starts(blocks):
    """The dict from blocks to dicts whose keys are the places that are wanted at their first spots."""
    leads = {number: leads_to(blocks[number][2]) for number in blocks}
    order = list(reversed(order_from(leads, 0)))
    found = {number: {} for number in blocks}
    is_changed = True
    while is_changed:
        is_changed = False
        for number in order:
            told = wanted_in_block(blocks, number, found)[0]
            if len(told) != len(found[number]):
                found[number] = told
                is_changed = True
    return found


def wanted_in_block(blocks, number, starts):
    """The dicts of the places that are wanted at the spots of a block; starts tells those of all first spots."""
    _, rows, end = blocks[number]
    wanted = wanted_at_end(end, blocks, starts)
    found = [wanted]
    for row in reversed(rows):
        wanted = wanted_ahead(row, wanted)
        found.append(wanted)
    return list(reversed(found))


def wanted_at_end(end, blocks, starts):
    """The dict of the places that are wanted at an end."""
    found = {}
    for other in leads_to(end):
        given = {place: True for place, _ in blocks[other][0]}
        for place in starts[other]:
            if place not in given:
                found[place] = True
    if end[0] == "try":
        forget_registers(found)
    for place in reads_of_end(end):
        found[place] = True
    return found


def wanted_ahead(row, wanted):
    """The dict of the places that are wanted at a row, by those that are wanted behind it."""
    found = dict(wanted)
    if row[1] == "call":
        forget_registers(found)
    found.pop(row[0], None)
    for place in reads_of_row(row):
        found[place] = True
    return found


def alive_places(blocks):
    """The dict from blocks to lists, one for each spot, of the places that are alive there."""
    starts = wanted_at_starts(blocks)
    found = {}
    for number in sorted(blocks):
        parameters, rows, _ = blocks[number]
        given = [[place for place, _ in parameters]] + [[row[0]] for row in rows]
        found[number] = []
        for wanted, places in zip(wanted_in_block(blocks, number, starts), given):
            told = {place: True for place in [*wanted, *places] if place is not None}
            found[number].append(in_place_order(list(told)))
    return found
