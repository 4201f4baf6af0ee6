"""Placing: which registers and slots named places lie in, and the code with these."""

from stopanywhere.blocks import given_in
from stopanywhere.checks import check_spot
from stopanywhere.colours import colours
from stopanywhere.errors import BadPlace, BadPlaces, BadRegisters
from stopanywhere.lasting import lasting_in_block, lasting_starts, shortest_way_losing
from stopanywhere.shapes import is_place, place_number
from stopanywhere.spills import slots
from stopanywhere.transposing import Transposer
from stopanywhere.values import ascending, first_again, is_number_between
from stopanywhere.wanted import carried
from stopanywhere.wants import alive_places, in_place_order


def placing(code, registers):
    """The dict, in place order, from the places of a code to as few registers and slots as can be."""
    _check_registers(registers)
    given = in_place_order(_given_places(code))
    spilled = list(slots(code, _room(registers)))
    free = [place for place in given if place not in spilled]
    in_registers = colours(code, spilled)
    in_slots = colours(code, free)
    return {place: f"r{in_registers[place]}" if place in in_registers else f"s{in_slots[place]}" for place in given}


def is_placing(code, registers, places):
    """Whether any value is a dict from the places of a code to registers and slots in which they can lie."""
    _check_registers(registers)
    given = _given_places(code)
    if not isinstance(places, dict) or len(places) != len(given) or not all([place in places for place in given]):
        return False
    room = _room(registers)
    if not all([_is_free_place(places[place], room) for place in given]):
        return False
    if not all([places[place][0] == "s" for place in carried(code)]):
        return False
    lists = [told for told_in_block in list(alive_places(code[2]).values()) for told in told_in_block]
    return all([first_again([places[place] for place in told]) is None for told in lists])


def found(code, registers, places):
    """The ascending dict from the blocks to lists, one for each spot, of the places that are found there."""
    _check_places(code, registers, places)
    return {number: [in_place_order(list(told)) for told in lists] for number, lists in _found(code, places).items()}


def lost_way(code, registers, places, spot, place):
    """A shortest way to a spot on which a place is not found there, None if it is found."""
    _check_places(code, registers, places)
    check_spot(code[2], spot)
    if not isinstance(place, str) or place not in places:
        raise BadPlace("no place that the code gives")
    return shortest_way_losing(code[2], places, spot, place)


def placed(code, registers, places):
    """The pair of the placed code, in which the places of a code lie as told, and its paper."""
    _check_places(code, registers, places)
    name, result, blocks = code
    told = _found(code, places)
    transposer = Transposer(blocks, places, (f"r{registers - 3}", f"r{registers - 2}"))
    made = {number: transposer.block_with(number, told[number]) for number in told}
    paper = {}
    for number in told:
        known = transposer.known_at_start(number, told[number][0])
        equations = ascending({place: ("of", known[place], 1, 0) for place in known})
        paper[number] = (((name, number, 0, equations),), (), False)
    return (name, result, made), paper


def placed_code(code, registers):
    """What placed returns for the places that placing tells."""
    return placed(code, registers, placing(code, registers))


def _room(registers):
    """How many registers are no helpers."""
    return registers - 3


def _given_places(code):
    return [place for block in list(code[2].values()) for place in given_in(block)]


def _is_free_place(thing, room):
    """Whether any value is a slot, or a register that is no helper."""
    return is_place(thing) and (thing[0] == "s" or (thing[0] == "r" and place_number(thing) < room))


def _found(code, places):
    starts = lasting_starts(code[2], places)
    return {number: lasting_in_block(code[2][number], places, starts[number]) for number in sorted(code[2])}


def _check_registers(registers):
    if not is_number_between(registers, 6, 9):
        raise BadRegisters("no number from 6 to 9")


def _check_places(code, registers, places):
    if not is_placing(code, registers, places):
        raise BadPlaces("no placing of the code")
