"""What is told at the spots of a code: its roots, and the frames of the nearest context row by what is held there."""

from stopanywhere.blocks import frames_of, is_context, is_pure, leads_to
from stopanywhere.holding import Holdings
from stopanywhere.sayings import said_frames
from stopanywhere.sums import added, number_of, sum_of_number, turned
from stopanywhere.termbook import TermBook
from stopanywhere.wants import in_place_order, wanted_at_starts, wanted_in_block


class Teller:
    """What is told of a code that is right in a scope; each block is worked out once."""

    def __init__(self, code, scope):
        self._code = code
        self._scope = scope
        self._held = Holdings({code[0]: code}, scope)
        self._wanted_starts = wanted_at_starts(code[2])
        self._wanted = {}
        self._walks = {}
        self._told = {}

    def held_at(self, number, at):
        """The dict from the places that are held ahead of a spot to their kinds."""
        return self._held.held_at(self._code[0], number, at)

    def wanted_at(self, number, at, is_waiting):
        """The places that are wanted at a spot, or behind it where a frame waits, in place order."""
        blocks = self._code[2]
        if number not in self._wanted:
            self._wanted[number] = wanted_in_block(blocks, number, self._wanted_starts)
        if not is_waiting:
            return in_place_order(list(self._wanted[number][at]))
        _, rows, end = blocks[number]
        if at < len(rows):
            found = [place for place in self._wanted[number][at + 1] if place != rows[at][0]]
        else:
            found = []
            for other in leads_to(end):
                given = [place for place, _ in blocks[other][0]]
                found.extend([place for place in self._wanted_starts[other] if place not in given + found])
        return in_place_order([place for place in found if place[0] != "r"])

    def roots(self, number, at, is_waiting):
        """The places of a declared kind that are wanted, in place order."""
        held = self.held_at(number, at)
        return [place for place in self.wanted_at(number, at, is_waiting) if held.get(place, "number") != "number"]

    def can_wait(self, number, at):
        """Whether a frame can wait at a spot."""
        _, rows, end = self._code[2][number]
        return end[0] == "try" if at == len(rows) else rows[at][1] == "call"

    def frames(self, number, at, is_waiting):
        """The frames of the nearest context row ahead, each formula as it is here."""
        key = (number, at, is_waiting)
        if key not in self._told:
            self._told[key] = self._frames(number, at, is_waiting)
        return self._told[key]

    def _frames(self, number, at, is_waiting):
        if number not in self._walks:
            self._walks[number] = BlockWalk(self._code[2][number], self._scope, self.held_at(number, 0))
        walk = self._walks[number]
        finder = Finder(walk.book, walk.terms[at], self._places(number, at, is_waiting), self._scope)
        kinds = self.held_at(number, at)
        finder.note([(place, kinds[place]) for place in self.roots(number, at, is_waiting)])
        found = []
        for function, point, variables in walk.said[at]:
            told = [(name, kind, finder.formula(kind, term)) for name, kind, term in variables]
            found.append((function, point, tuple(told)))
        return tuple(found)

    def _places(self, number, at, is_waiting):
        """The places of numbers by which a spot may tell, in place order."""
        _, rows, end = self._code[2][number]
        held = self.held_at(number, at)
        found = [place for place in held if held[place] == "number"]
        if is_waiting:
            given = [rows[at][0]] if at < len(rows) else self._given_by_try(end)
            found = [place for place in found if place[0] != "r" and place not in given]
        return in_place_order(found)

    def _given_by_try(self, end):
        return [place for other in leads_to(end) for place, _ in self._code[2][other][0]]


class BlockWalk:
    """The terms of the places at each spot of a block, and the frames that are said there, by terms."""

    def __init__(self, block, scope, held):
        self.book = TermBook(scope)
        terms = {place: self.book.atom("place", place) for place in sorted(held)}
        self.terms = [terms]
        self.said = []
        said = ()
        for at, row in enumerate(block[1]):
            terms = dict(terms)
            if is_context(row):
                said = said_frames(self.book, frames_of(row), terms)
            if row[1] == "call":
                terms = {place: terms[place] for place in terms if place[0] != "r"}
            if row[0] is not None:
                terms[row[0]] = self.book.row_term(row, terms) if is_pure(row) else self.book.atom("given", at)
            self.said.append(said)
            self.terms.append(terms)
        self.said.append(said)


class Finder:
    """Formulas of terms, by the places of numbers that may be told, in place order, and by roots."""

    def __init__(self, book, terms, places, scope):
        self._book = book
        self._terms = terms
        self._scope = scope
        self._roots = {}
        self._order = {place: at for at, place in enumerate(places)}
        # The first place of each term, whatever number stands in it beside its other products.
        self._first = {}
        for place in places:
            self._first.setdefault(_without_number(terms[place]), place)

    def note(self, roots):
        """Adds the roots, pairs of a place and its kind, in place order."""
        for place, kind in roots:
            self._roots.setdefault((kind, self._terms[place]), place)

    def formula(self, kind, term):
        """The formula that tells a term, None of what is lost, of a kind."""
        if term is None:
            return ("lost",)
        if kind == "number":
            return self._number_formula(term)
        if (kind, term) in self._roots:
            return "of", self._roots[(kind, term)], 1, 0
        told = self._book.told_of(term)
        if told == () or told[0] != "make":
            return ("lost",)
        _, variant, terms = told
        parts = [self.formula(field, part) for field, part in zip(self._scope.fields(variant), terms)]
        return ("lost",) if ("lost",) in parts else ("make", variant, tuple(parts))

    def _number_formula(self, term):
        number = number_of(term)
        if number is not None:
            return "is", number
        rest = _without_number(term)
        told = [self._first[other] for other in (rest, turned(rest)) if other in self._first]
        if not told:
            return ("lost",)
        place = told[0] if len(told) == 1 or self._order[told[0]] < self._order[told[1]] else told[1]
        less = number_of(added(term, turned(self._terms[place])))
        if less is not None:
            return "of", place, 1, less
        return "of", place, -1, number_of(added(term, self._terms[place]))


def _without_number(term):
    """A term without its product that has no atoms."""
    return added(term, turned(sum_of_number(term[0][1]))) if term != () and term[0][0] == () else term
