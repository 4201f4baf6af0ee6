"""The plain run beside a desk: which of its events are points, and of which statements."""

from stopanywhere.plain import Plain

# A run that never ends is not followed farther.
MOST_POINTS = 20000


class Pace:
    """The points of a run, found as far as they are asked for; each is a triple (event, function, number)."""

    def __init__(self, program, function, arguments):
        self._plain = Plain(program, function, arguments)
        self._points = []
        self._is_over = False

    def _go_on(self):
        """Goes on to the next point, or to the end."""
        if self._plain.go():
            function, number = self._plain.passed_point()
            self._points.append((self._plain.events(), function, number))
        else:
            self._is_over = True

    def passed(self, events):
        """How many points are among the first events."""
        while not self._is_over and self._plain.events() < events:
            self._go_on()
        return len([event for event, _, _ in self._points if event <= events])

    def next_behind(self, events, wanted):
        """The event of the next point behind so many events that is among the wanted ones, None if there is none.

        wanted is a dict whose keys are pairs (function, number), or None if all are wanted.
        """
        first = self.passed(events)
        for at in range(first, first + MOST_POINTS):
            while at == len(self._points) and not self._is_over:
                self._go_on()
            if at == len(self._points):
                return None
            event, function, number = self._points[at]
            if wanted is None or (function, number) in wanted:
                return event
        return None

    def last_ahead(self, events):
        """The event of the last point among the first events, None if there is none."""
        many = self.passed(events)
        return self._points[many - 1][0] if many > 0 else None
