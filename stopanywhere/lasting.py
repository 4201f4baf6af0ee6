"""What lasts in the places of a placing: which named places still lie where they were put."""

from stopanywhere.blocks import leads_to
from stopanywhere.holding import blocks_in_order


def lasting_starts(blocks, places):
    """The dict from blocks to dicts whose keys are the places that are found at their first spots."""
    starts = {0: _behind_parameters({}, blocks[0], places)}
    changed = {0: True}
    order = blocks_in_order(blocks)
    while changed:
        for number in order:
            if number in changed:
                del changed[number]
                behind = _behind_end(blocks[number], places, starts[number])
                for other in leads_to(blocks[number][2]):
                    coming = _behind_parameters(behind, blocks[other], places)
                    if other in starts:
                        coming = {place: True for place in starts[other] if place in coming}
                    if other not in starts or len(coming) < len(starts[other]):
                        starts[other] = coming
                        changed[other] = True
    return starts


def lasting_in_block(block, places, start):
    """The list of the dicts of the places that are found at the spots of a block, by those of its first spot."""
    found = [start]
    for row in block[1]:
        found.append(_behind_row(found[-1], row, places))
    return found


def _behind_row(told, row, places):
    found = _without_registers(told, places) if row[1] == "call" else dict(told)
    if row[0] is not None:
        _give(found, row[0], places)
    return found


def _behind_end(block, places, start):
    """What is found behind an end, ahead of the parameters of the block to which it leads."""
    told = lasting_in_block(block, places, start)[-1]
    return _without_registers(told, places) if block[2][0] == "try" else told


def _behind_parameters(told, block, places):
    found = dict(told)
    for place, _ in block[0]:
        _give(found, place, places)
    return found


def _give(found, place, places):
    """Has a place given: nothing else is found in its place any more."""
    for other in list(found):
        if places[other] == places[place]:
            del found[other]
    found[place] = True


def _without_registers(told, places):
    return {place: True for place in told if places[place][0] != "r"}


def shortest_way_losing(blocks, places, spot, place):
    """A shortest way from block 0 to a spot at which a place is not found on it, None if there is none."""
    number, at = spot
    first = (0, place in _behind_parameters({}, blocks[0], places))
    ahead = {first: None}
    coming = [first]
    while coming:
        further = []
        for thing in coming:
            other, is_found = thing
            start = {place: True} if is_found else {}
            if other == number and place not in lasting_in_block(blocks[other], places, start)[at]:
                return _way_behind(ahead, thing)
            behind = _behind_end(blocks[other], places, start)
            for led in leads_to(blocks[other][2]):
                further_thing = (led, place in _behind_parameters(behind, blocks[led], places))
                if further_thing not in ahead:
                    ahead[further_thing] = thing
                    further.append(further_thing)
        coming = further
    return None


def _way_behind(ahead, last):
    way = []
    while last is not None:
        way.append(last[0])
        last = ahead[last]
    return list(reversed(way))
