"""Moves at once: copies behind which each target holds what its source held ahead of them."""

from stopanywhere.errors import BadHelpers, BadPairs
from stopanywhere.openers import Transfer, is_slot
from stopanywhere.shapes import is_place
from stopanywhere.shifting import moved_at_once
from stopanywhere.values import is_list, is_tuple_of
from stopanywhere.wants import in_place_order

MOST_PAIRS = 60


def moves(pairs, helpers):
    """A list of copies, as short as can be, that move what the sources of pairs hold into their targets at once."""
    _check_pairs(pairs)
    _check_helpers(pairs, helpers)
    return moved_at_once(pairs, helpers)


def openings(pairs):
    """The list of what costs one row more than one for each pair that is not idle."""
    _check_pairs(pairs)
    transfer = Transfer(pairs)
    found = [("slots", place) for place in in_place_order(list(transfer.targets)) if transfer.has_slots_alone(place)]
    return found + [("ring", ring) for ring in transfer.rings if transfer.opener(ring) is None]


def _check_pairs(pairs):
    if not is_list(pairs) or len(pairs) > MOST_PAIRS:
        raise BadPairs(None)
    targets = []
    for at, pair in enumerate(pairs):
        if not is_tuple_of(pair, 2) or not all([_is_placed_place(place) for place in pair]) or pair[0] in targets:
            raise BadPairs(at)
        targets.append(pair[0])


def _is_placed_place(thing):
    return is_place(thing) and thing[0] != "v"


def _check_helpers(pairs, helpers):
    if not is_tuple_of(helpers, 2) or not all([_is_placed_place(place) and not is_slot(place) for place in helpers]):
        raise BadHelpers("no pair of registers")
    if helpers[0] == helpers[1] or any([helper in pair for pair in pairs for helper in helpers]):
        raise BadHelpers("registers that are not different, or stand in a pair")
