"""Named code with other numbers, and without parameters that other places stand for. Codes are right here."""

from stopanywhere.blocks import end_leading, end_with, given_in, leads_to, row_with
from stopanywhere.graphs import nearest_ahead
from stopanywhere.shapes import place_number

# What leads to all places that are no parameters of blocks to which jumps lead; it is no place itself.
ROOT = ""


def tidied(code):
    """The code with its blocks and its places numbered in the order of being met first."""
    name, result, blocks = code
    order = _order_of_meeting(blocks)
    numbers = {number: at for at, number in enumerate(order)}
    given = [place for number in order for place in given_in(blocks[number])]
    others = {place: f"v{at}" for at, place in enumerate(given)}
    found = {}
    for number in order:
        parameters, rows, end = blocks[number]
        told = tuple([(others[place], kind) for place, kind in parameters])
        other_rows = tuple([row_with(row, others) for row in rows])
        found[numbers[number]] = (told, other_rows, end_with(end_leading(end, numbers), others))
    return name, result, found


def _order_of_meeting(blocks):
    """The blocks from block 0 on, each one's end gone through from left to right."""
    order = [0]
    at = 0
    while at < len(order):
        end = blocks[order[at]][2]
        for other in leads_to(end):
            if other not in order:
                order.append(other)
        at += 1
    return order


def arguments_given(blocks):
    """The dict from the parameters of blocks to which jumps lead to the lists of the arguments that these give."""
    found = {}
    for _, _, end in list(blocks.values()):
        if end[0] == "jump":
            _, block, arguments = end
            for (place, _), argument in zip(blocks[block][0], arguments):
                found.setdefault(place, []).append(argument)
    return found


def standing_in(code):
    """The standing-in with the most keys, ascending by their numbers.

    A place stands for a parameter if the parameter's word comes from it on all ways from argument to parameter; of
    several such places it is the one from which the others come.
    """
    _, _, blocks = code
    given = arguments_given(blocks)
    leads = {ROOT: []}
    for block in list(blocks.values()):
        for place in given_in(block):
            leads[place] = []
            if place not in given:
                leads[ROOT].append(place)
    for place in given:
        for argument in given[place]:
            leads[argument].append(place)
    nearest = nearest_ahead(leads, ROOT)
    keys = sorted([place for place in given if nearest[place] != ROOT], key=place_number)
    return {place: _behind_root(nearest, place) for place in keys}


def _behind_root(nearest, place):
    while nearest[place] != ROOT:
        place = nearest[place]
    return place


def without_standing_in(code, others):
    """The code without the parameters that are keys, with their places wherever one was read or told."""
    name, result, blocks = code
    return name, result, replaced(blocks, others)


def replaced(blocks, others):
    """Blocks in which the places of a dict stand for its keys; what gave a key goes, its arguments too."""
    found = {}
    for number in sorted(blocks):
        parameters, rows, end = blocks[number]
        kept = tuple([(place, kind) for place, kind in parameters if place not in others])
        other_rows = tuple([row_with(row, others) for row in rows if row[0] not in others])
        found[number] = (kept, other_rows, end_with(end_without(end, blocks, others), others))
    return found


def end_without(end, blocks, others):
    """An end without the arguments for parameters that are keys of a dict."""
    if end[0] != "jump":
        return end
    _, block, arguments = end
    kept = [argument for (place, _), argument in zip(blocks[block][0], arguments) if place not in others]
    return "jump", block, tuple(kept)
