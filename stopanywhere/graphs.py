"""Ways in a graph, a dict from each thing to the list of those that it leads to."""


def order_from(leads, first):
    """The things that are come to from the first one, each ahead of those that it leads to, but for rings."""
    found = []
    met = {first: True}
    coming = [(first, list(leads[first]))]
    while coming:
        thing, others = coming[-1]
        if others:
            other = others.pop()
            if other not in met:
                met[other] = True
                coming.append((other, list(leads[other])))
        else:
            found.append(thing)
            coming.pop()
    return list(reversed(found))


def nearest_ahead(leads, first):
    """The dict from each thing that is come to, to the last other one on all ways to it; the first one to itself."""
    order = order_from(leads, first)
    places = {thing: at for at, thing in enumerate(order)}
    leading = {thing: [] for thing in order}
    for thing in order:
        for other in leads[thing]:
            leading[other].append(thing)
    nearest = {first: first}
    is_changed = True
    while is_changed:
        is_changed = False
        for thing in order[1:]:
            told = [other for other in leading[thing] if other in nearest]
            found = told[0]
            for other in told[1:]:
                found = _on_both_ways(nearest, places, found, other)
            if nearest.get(thing) != found:
                nearest[thing] = found
                is_changed = True
    return nearest


def _on_both_ways(nearest, places, one, other):
    while one != other:
        if places[one] > places[other]:
            one = nearest[one]
        else:
            other = nearest[other]
    return one


class Nest:
    """What stands ahead of what: which things are on all ways to one, by nearest_ahead of all that are come to."""

    def __init__(self, leads, first):
        self._first = first
        self._nearest = nearest_ahead(leads, first)
        order = order_from(leads, first)
        sizes = {thing: 1 for thing in order}
        for thing in list(reversed(order[1:])):
            sizes[self._nearest[thing]] += sizes[thing]
        # All things that one stands ahead of are numbered in a row, from its own number on.
        self._sizes = sizes
        self._numbers = {first: 0}
        free = {first: 1}
        for thing in order[1:]:
            ahead = self._nearest[thing]
            self._numbers[thing] = free[ahead]
            free[ahead] += sizes[thing]
            free[thing] = self._numbers[thing] + 1

    def stands_ahead(self, one, other):
        """Whether one thing is on all ways to another one; each is on all ways to itself."""
        return 0 <= self._numbers[other] - self._numbers[one] < self._sizes[one]

    def ahead_of(self, thing):
        """The things on all ways to one, itself last, in the order in which they stand on each way."""
        found = [thing]
        while found[-1] != self._first:
            found.append(self._nearest[found[-1]])
        return list(reversed(found))


def shortest_way(leads, first, last, shunned):
    """A shortest list of things that lead from the first one to the last one and not over a shunned one, or None.

    The last one may be the shunned one itself.
    """
    if first == last:
        return [first]
    if first == shunned:
        return None
    ahead = {first: first}
    coming = [first]
    while coming:
        further = []
        for thing in coming:
            for other in leads[thing]:
                if other not in ahead and (other == last or other != shunned):
                    ahead[other] = thing
                    further.append(other)
        if last in ahead:
            return _way_behind(ahead, first, last)
        coming = further
    return None


def _way_behind(ahead, first, last):
    way = [last]
    while way[-1] != first:
        way.append(ahead[way[-1]])
    return list(reversed(way))


def least_way_past(leads, first, last, shunned):
    """The least of the shortest ways that do not lead over a shunned thing, a tuple; None if there is none."""
    if last == shunned:
        return None
    # Where all leads are ascending, ways of one length are gone in their order.
    way = shortest_way({thing: sorted(leads[thing]) for thing in leads}, first, last, shunned)
    return None if way is None else tuple(way)
