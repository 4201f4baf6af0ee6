"""Spans that are left out at the least cost, and prices that show that it is the least.

So many ways as there is room lead from the first position on, each over spans that do not cover one position both;
they are found one by one, always the one that keeps the most cost, going back on earlier ones where that is better.
"""


class Keeping:
    """Spans that are kept: those on the ways so far.

    Nodes are the positions and one behind them. A way goes over spans, and over positions that it leaves empty.
    """

    def __init__(self, spans):
        self._spans = spans
        self._last = max([last for _, last, _ in spans]) + 1
        self._empty = [0 for _ in range(self._last)]
        self.is_kept = [False for _ in spans]
        self._beginning = [[] for _ in range(self._last)]
        self._ending = [[] for _ in range(self._last + 1)]
        for at, (first, last, _) in enumerate(spans):
            self._beginning[first].append(at)
            self._ending[last + 1].append(at)

    def add_way(self):
        """Adds one way more, so that as much cost as can be is kept."""
        _, steps = self._shortest()
        node = self._last
        while node != 0:
            ahead, span = steps[node]
            if span is not None:
                self.is_kept[span] = node > ahead
            elif node > ahead:
                self._empty[ahead] += 1
            else:
                self._empty[node] -= 1
            node = ahead

    def prices(self):
        """The prices of the positions: how much nearer to the first one the node behind each is than its own."""
        far, _ = self._shortest()
        return [far[at] - far[at + 1] for at in range(self._last)]

    def _shortest(self):
        """How far all nodes are from the first one, and the steps (node ahead, span or None) that lead to them.

        A step over a span that is not kept is as far as minus its cost; one back over a kept one gives that back.
        """
        far = [None for _ in range(self._last + 1)]
        far[0] = 0
        steps = {}
        is_changed = True
        while is_changed:
            # All steps on, taken in the order of the nodes, are done at once; only steps back give rise to others.
            for node in range(self._last):
                self._go_on(node, far, steps)
            is_changed = any([self._goes_back(node, far, steps) for node in range(self._last, 0, -1)])
        return far, steps

    def _go_on(self, node, far, steps):
        """Tells the steps from a node to later ones."""
        _step(node, node + 1, None, 0, far, steps)
        for span in self._beginning[node]:
            _, last, cost = self._spans[span]
            if not self.is_kept[span]:
                _step(node, last + 1, span, 0 - cost, far, steps)

    def _goes_back(self, node, far, steps):
        """Tells the steps from a node to earlier ones; whether one of them leads nearer."""
        is_nearer = self._empty[node - 1] > 0 and _step(node, node - 1, None, 0, far, steps)
        for span in self._ending[node]:
            first, _, cost = self._spans[span]
            if self.is_kept[span] and _step(node, first, span, cost, far, steps):
                is_nearer = True
        return is_nearer


def _step(node, other, span, length, far, steps):
    """Tells a step if it leads nearer than those so far; whether it does."""
    if far[other] is not None and far[other] <= far[node] + length:
        return False
    far[other] = far[node] + length
    steps[other] = (node, span)
    return True


def least_left(spans, room):
    """The ascending list of the spans that are left out, and the prices of the positions."""
    if len(spans) == 0:
        return [], []
    keeping = Keeping(spans)
    for _ in range(room):
        keeping.add_way()
    return _left_beside(spans, room, keeping.is_kept), keeping.prices()


def _left_beside(spans, room, is_kept):
    """The spans that are left out for good: of those that the ways leave out, what costs nothing may find room."""
    counts = [0 for _ in range(max([last for _, last, _ in spans]) + 1)]
    for (first, last, _), is_one in zip(spans, is_kept):
        if is_one:
            _cover(counts, first, last)
    found = []
    for at, (first, last, _) in enumerate(spans):
        if not is_kept[at] and max(counts[first:last + 1]) < room:
            _cover(counts, first, last)
        elif not is_kept[at]:
            found.append(at)
    return found


def _cover(counts, first, last):
    for at in range(first, last + 1):
        counts[at] += 1


def worth_of(spans, room, prices):
    """What prices are worth; positions behind them have the price 0."""
    found = 0 - room * sum(prices)
    for first, last, cost in spans:
        price = sum(prices[first:last + 1])
        found += min(price, cost)
    return found
