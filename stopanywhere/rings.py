"""Which units use which: orders and rings."""


def order_by_uses(uses):
    """The names of a dict from names to the names that they use, each behind those that it uses.

    Always the least one that can come next; fewer than all if there is a ring.
    """
    found = []
    ready = [name for name in sorted(uses) if not uses[name]]
    while ready:
        found.append(ready[0])
        ready = [
            name for name in sorted(uses) if name not in found and all([other in found for other in uses[name]])
        ]
    return tuple(found)


def shortest_ring(uses):
    """A shortest tuple of names of which each uses the next one and the last one the first, the least name first.

    Of several the first by their names, so that the least name of each ring comes first.
    """
    rings = []
    for name in sorted(uses):
        ring = shortest_ring_from(uses, name)
        if ring is not None:
            rings.append((len(ring), ring))
    _, ring = min(rings)
    return ring


def shortest_ring_from(uses, first):
    """The shortest ring through a name, of several the first by their names; None if there is none."""
    # Ways of one length come in the order of their names, so the first way to a name is the first one by names.
    ways = [(first,)]
    met = {first: True}
    while ways:
        longer = []
        for way in ways:
            if first in uses[way[-1]]:
                return way
            for name in sorted(set(uses[way[-1]])):
                if name not in met:
                    met[name] = True
                    longer.append((*way, name))
        ways = longer
    return None


def ring_of_calls(calls, name):
    """The least of the shortest rings of calls from a name to itself, told at both ends; None if there is none.

    calls tells by names what these call, perhaps also what is no name of the dict.
    """
    known = {key: [other for other in calls[key] if other in calls] for key in calls}
    ring = shortest_ring_from(known, name)
    return None if ring is None else (*ring, name)


def users_by_uses(uses, name):
    """The ascending tuple of the names that come to a name by uses, one after another, without this one."""
    found = {name: True}
    size = 0
    while size < len(found):
        size = len(found)
        for user in uses:
            if any([other in found for other in uses[user]]):
                found[user] = True
    return tuple([user for user in sorted(found) if user != name])
