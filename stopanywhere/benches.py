"""Benches: named codes that are rewritten one behind another, with their charts."""

from stopanywhere.blocks import calls_in_code, copy_of
from stopanywhere.charts import Chart
from stopanywhere.rings import ring_of_calls


class Bench:
    """Named codes by their functions' names, all right in the scope."""

    def __init__(self, scope, codes):
        self.scope = scope
        self._codes = {name: codes[name] for name in sorted(codes)}
        self._calls = {name: calls_in_code(codes[name]) for name in self._codes}
        self._charts = {}
        self._rings = {}

    def has(self, name):
        return name in self._codes

    def put_in(self, name, code, chart):
        """Puts a code, with its chart, in the place of the one of its name."""
        self._codes[name] = code
        self._calls[name] = calls_in_code(code)
        self._charts[name] = chart
        self._rings.clear()

    def chart(self, name):
        if name not in self._charts:
            self._charts[name] = Chart(self._codes[name], self.scope)
        return self._charts[name]

    def ring_through(self, name):
        """The shortest ring of calls from a name to itself, None if there is none."""
        if name not in self._rings:
            self._rings[name] = ring_of_calls(self._calls, name)
        return self._rings[name]

    def all_codes(self):
        """The ascending dict from the names to the codes, new at every depth."""
        return {name: copy_of(code) for name, code in self._codes.items()}
