"""Slots that are tied to one another, and the shortest ways between two that are wanted as unlike kinds."""


def neighbours(ties):
    """The dict from slots to the lists of the slots that they are tied to."""
    found = {}
    for one, other in ties:
        found.setdefault(one, []).append(other)
        found.setdefault(other, []).append(one)
    return found


def wanted_as(wants):
    """The dict from slots to the dicts of the kinds that they are wanted as."""
    found = {}
    for slot, kind in wants:
        kinds = found.setdefault(slot, {})
        kinds[kind] = True
    return found


def class_numbers(slots, ties):
    """The dict from slots, and from all that are tied to them, to the numbers of their classes."""
    near = neighbours(ties)
    found = {}
    number = 0
    for slot in slots:
        if slot not in found:
            number += 1
            found[slot] = number
            coming = [slot]
            while coming:
                last = coming.pop()
                for other in near.get(last, []):
                    if other not in found:
                        found[other] = number
                        coming.append(other)
    return found


def shortest_clash(ties, wants):
    """A clash with a way as short as can be, None if there is none."""
    near = neighbours(ties)
    wanted = wanted_as(wants)
    best = None
    for kind in sorted(set([kind for _, kind in wants])):
        found = _nearest_clash(near, wanted, kind)
        if found is not None and (best is None or len(found[2]) < len(best[2])):
            best = found
    return best


def _nearest_clash(near, wanted, kind):
    """A shortest clash of this kind and one behind it by text."""
    ahead = {slot: None for slot in wanted if kind in wanted[slot]}
    coming = list(ahead)
    while coming:
        further = []
        for slot in coming:
            others = [other for other in sorted(wanted.get(slot, {})) if other > kind]
            if others:
                return kind, others[0], _way_behind(ahead, slot)
            for other in near.get(slot, []):
                if other not in ahead:
                    ahead[other] = slot
                    further.append(other)
        coming = further
    return None


def _way_behind(ahead, slot):
    way = []
    while slot is not None:
        way.append(slot)
        slot = ahead[slot]
    return tuple(reversed(way))
