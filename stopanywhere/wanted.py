"""Wanted places: which ones are read further on, which are alive, and which calls carry."""

from stopanywhere.blocks import leads_to, reads_of_end, reads_of_row
from stopanywhere.checks import check_spot
from stopanywhere.errors import BadPlace
from stopanywhere.shapes import is_place
from stopanywhere.wants import alive_places, in_place_order, wanted_at_starts, wanted_in_block


def wanted(code):
    """The ascending dict from the blocks to lists, one for each spot, of the places that are wanted there."""
    _, _, blocks = code
    starts = wanted_at_starts(blocks)
    found = {}
    for number in sorted(blocks):
        found[number] = [in_place_order(list(places)) for places in wanted_in_block(blocks, number, starts)]
    return found


def way_to(code, spot, place):
    """A shortest list of blocks from a spot on to where a place is read, None if it is not wanted there."""
    _, _, blocks = code
    check_spot(blocks, spot)
    if not is_place(place):
        raise BadPlace("no place")
    number, at = spot
    ways = [[number]]
    met = {}
    while ways:
        longer = []
        for way in ways:
            word = _met_first(blocks[way[-1]], at if len(way) == 1 else 0, place)
            if word == "read":
                return way
            if word == "":
                longer.extend(_longer_ways(way, blocks, place, met))
        ways = longer
    return None


def _met_first(block, at, place):
    """What a block does first with a place from an index on: "read", "given", or "" for nothing."""
    _, rows, end = block
    for row in rows[at:]:
        if place in reads_of_row(row):
            return "read"
        if row[0] == place or (row[1] == "call" and place[0] == "r"):
            return "given"
    if place in reads_of_end(end):
        return "read"
    return "given" if end[0] == "try" and place[0] == "r" else ""


def _longer_ways(way, blocks, place, met):
    """The way with each block behind it that is not met yet, and whose parameters do not give the place."""
    found = []
    for other in leads_to(blocks[way[-1]][2]):
        if other not in met and place not in [given for given, _ in blocks[other][0]]:
            met[other] = True
            found.append([*way, other])
    return found


def alive(code):
    """The ascending dict from the blocks to lists, one for each spot, of the places that are alive there."""
    return alive_places(code[2])


def carried(code):
    """The dict, in place order, from the carried places to the first spots of calls and tries that carry them."""
    _, _, blocks = code
    starts = wanted_at_starts(blocks)
    reasons = {}
    for number in sorted(blocks):
        _, rows, end = blocks[number]
        for at, (row, places) in enumerate(zip(rows, wanted_in_block(blocks, number, starts)[1:])):
            if row[1] == "call":
                _carry([place for place in places if place != row[0]], (number, at), reasons)
        if end[0] == "try":
            for other in leads_to(end):
                given = [place for place, _ in blocks[other][0]]
                _carry([place for place in starts[other] if place not in given], (number, len(rows)), reasons)
    return {place: reasons[place] for place in in_place_order(list(reasons))}


def _carry(places, spot, reasons):
    for place in places:
        reasons.setdefault(place, spot)
