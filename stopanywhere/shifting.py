"""Moves at once, row by row: trees of copies, and rings."""

from stopanywhere.openers import Transfer, is_slot
from stopanywhere.wants import in_place_order


def moved_at_once(pairs, helpers):
    """As few copies as can be that move what the sources of pairs hold into their targets at once."""
    transfer = Transfer(pairs)
    rows = []
    for ring in transfer.rings:
        _move_ring(transfer, ring, helpers, rows)
    for place in in_place_order(list(transfer.targets)):
        if place not in transfer.sources:
            _move_tree(transfer, place, helpers[0], rows)
    return rows


def _move_tree(transfer, place, helper, rows):
    """Moves what a place, which is in no ring, holds into its targets, when these have been moved on themselves."""
    order = [place]
    at = 0
    while at < len(order):
        order.extend(transfer.targets.get(order[at], []))
        at += 1
    for other in list(reversed(order)):
        _copy_out(other, transfer.targets.get(other, []), helper, rows)


def _copy_out(place, targets, helper, rows):
    """Copies a place into targets; a slot into slots over a register, one of the targets or the helper."""
    first = [target for target in targets if not is_slot(target)]
    source = place
    if is_slot(place) and targets:
        source = first[0] if first else helper
        rows.append((source, "copy", place))
    rows.extend([(target, "copy", source) for target in targets if target != source])


def _move_ring(transfer, ring, helpers, rows):
    """Moves the places of a ring, and what takes from them.

    What the place that opens the ring held is kept elsewhere till the end, when its target in the ring takes it.
    """
    for place in ring:
        for target in transfer.outside_targets(place):
            _move_tree(transfer, target, helpers[0], rows)
    opener = transfer.opener(ring)
    first = ring[0] if opener is None else opener
    kept = transfer.keeper(first)
    if kept is None:
        kept = helpers[0]
    rows.append((kept, "copy", first))
    source = first if is_slot(kept) else kept
    rows.extend([(target, "copy", source) for target in transfer.outside_targets(first) if target != kept])
    place = transfer.sources[first]
    while place != first:
        _copy_out(place, transfer.targets[place], helpers[1], rows)
        place = transfer.sources[place]
    rows.append((transfer.successors[first], "copy", kept))
