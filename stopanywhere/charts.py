"""Charts: what named code that is right tells of its blocks and places."""

from stopanywhere.blocks import is_pure, leads_to, reads_of_end, reads_of_row
from stopanywhere.graphs import Nest, order_from
from stopanywhere.holding import given_kind
from stopanywhere.termbook import TermBook


class Chart:
    """What a named code tells.

    givers tells the spots of the rows that give places, with the index -1 of parameters; kinds their kinds; readers
    the ascending spots that read them; leading the ascending blocks whose ends lead to a block, one for each end;
    nest which blocks stand ahead of which.
    """

    def __init__(self, code, scope):
        self.name, self.result, self.blocks = code
        self.scope = scope
        self.leads = {number: leads_to(self.blocks[number][2]) for number in sorted(self.blocks)}
        self.nest = Nest(self.leads, 0)
        self.leading = {number: [] for number in self.leads}
        for number in self.leads:
            for other in self.leads[number]:
                self.leading[other].append(number)
        self.givers = {}
        self.kinds = {}
        self.order = order_from(self.leads, 0)
        for number in self.order:
            self._chart_block(number)
        self.readers = {place: [] for place in self.givers}
        for number in self.leads:
            self._chart_readers(number)
        self._terms = {}
        self._alike = {}

    def _chart_block(self, number):
        parameters, rows, _ = self.blocks[number]
        for place, kind in parameters:
            self.givers[place] = (number, -1)
            self.kinds[place] = kind
        for at, row in enumerate(rows):
            if row[0] is not None:
                self.givers[row[0]] = (number, at)
                self.kinds[row[0]] = given_kind(row, self.scope, self.kinds)

    def _chart_readers(self, number):
        _, rows, end = self.blocks[number]
        reads = [reads_of_row(row) for row in rows] + [reads_of_end(end)]
        for at, places in enumerate(reads):
            for place in sorted(set(places)):
                self.readers[place].append((number, at))

    def is_held(self, place, number, at):
        """Whether a place is held ahead of a spot: it was given ahead on all ways there."""
        giver, given = self.givers[place]
        if giver == number:
            return given < at
        return self.nest.stands_ahead(giver, number)

    def terms(self):
        """The dict from the places to their terms."""
        if self._terms == {}:
            book = TermBook(self.scope)
            for number in self.order:
                parameters, rows, _ = self.blocks[number]
                for place, _ in parameters:
                    self._terms[place] = book.atom("place", place)
                for row in rows:
                    if row[0] is not None:
                        told = book.row_term(row, self._terms) if is_pure(row) else book.atom("place", row[0])
                        self._terms[row[0]] = told
        return self._terms

    def places_like(self, place):
        """The ascending list of the places of the kind and the term of this one, itself among them."""
        if self._alike == {}:
            terms = self.terms()
            for other in sorted(self.givers):
                self._alike.setdefault((self.kinds[other], terms[other]), []).append(other)
        return list(self._alike[(self.kinds[place], self.terms()[place])])
