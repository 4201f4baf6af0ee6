"""Moves at once: copies behind which each target holds what its source held ahead of them."""

from stopanywhere.errors import BadHelpers, BadPairs
from stopanywhere.openers import Transfer, is_slot
from stopanywhere.shapes import is_place
from stopanywhere.values import is_list, is_tuple_of
from stopanywhere.wants import in_place_order

MOST_PAIRS = 60


def moves(pairs, helpers):
    """A list of copies, as short as can be, that move what the sources of pairs hold into their targets at once."""
    _check_pairs(pairs)
    _check_helpers(pairs, helpers)
    transfer = Transfer(pairs)
    rows = []
    for ring in transfer.rings:
        _move_ring(transfer, ring, helpers, rows)
    for place in in_place_order(list(transfer.targets)):
        if place not in transfer.sources:
            _move_tree(transfer, place, helpers[0], rows)
    return rows


def openings(pairs):
    """The list of what costs one row more than one for each pair that is not idle."""
    _check_pairs(pairs)
    transfer = Transfer(pairs)
    found = [("slots", place) for place in in_place_order(list(transfer.targets)) if transfer.has_slots_alone(place)]
    return found + [("ring", ring) for ring in transfer.rings if transfer.opener(ring) is None]


def _check_pairs(pairs):
    if not is_list(pairs) or len(pairs) > MOST_PAIRS:
        raise BadPairs(None)
    targets = []
    for at, pair in enumerate(pairs):
        if not is_tuple_of(pair, 2) or not all([_is_placed_place(place) for place in pair]) or pair[0] in targets:
            raise BadPairs(at)
        targets.append(pair[0])


def _is_placed_place(thing):
    return is_place(thing) and thing[0] != "v"


def _check_helpers(pairs, helpers):
    if not is_tuple_of(helpers, 2) or not all([_is_placed_place(place) and not is_slot(place) for place in helpers]):
        raise BadHelpers("no pair of registers")
    if helpers[0] == helpers[1] or any([helper in pair for pair in pairs for helper in helpers]):
        raise BadHelpers("registers that are not different, or stand in a pair")


def _move_tree(transfer, place, helper, rows):
    """Moves what a place, which is in no ring, holds into its targets, when these have been moved on themselves."""
    targets = transfer.targets.get(place, [])
    for target in targets:
        _move_tree(transfer, target, helper, rows)
    _copy_out(place, targets, helper, rows)


def _copy_out(place, targets, helper, rows):
    """Copies a place into targets; a slot into slots over a register, one of the targets or the helper."""
    first = [target for target in targets if not is_slot(target)]
    source = place
    if is_slot(place) and targets:
        source = first[0] if first else helper
        rows.append((source, "copy", place))
    rows.extend([(target, "copy", source) for target in targets if target != source])


def _move_ring(transfer, ring, helpers, rows):
    """Moves the places of a ring, and what takes from them.

    What the place that opens the ring held is kept elsewhere till the end, when its target in the ring takes it.
    """
    for place in ring:
        for target in transfer.outside_targets(place):
            _move_tree(transfer, target, helpers[0], rows)
    opener = transfer.opener(ring)
    first = ring[0] if opener is None else opener
    kept = transfer.keeper(first)
    if kept is None:
        kept = helpers[0]
    rows.append((kept, "copy", first))
    source = first if is_slot(kept) else kept
    rows.extend([(target, "copy", source) for target in transfer.outside_targets(first) if target != kept])
    place = transfer.sources[first]
    while place != first:
        _copy_out(place, transfer.targets[place], helpers[1], rows)
        place = transfer.sources[place]
    rows.append((transfer.successors[first], "copy", kept))
