"""Blocks of named code with registers and slots in the place of their places."""

from stopanywhere.blocks import formula_with, is_context, reads_of_end, reads_of_row, row_with
from stopanywhere.shifting import moved_at_once


class Transposer:
    """Blocks of named code, the places in which theirs lie, and the registers that help to move."""

    def __init__(self, blocks, places, helpers):
        self._blocks = blocks
        self._places = places
        self._helpers = helpers
        self._tried = {}
        for _, _, end in list(blocks.values()):
            if end[0] == "try":
                self._tried[end[3]] = True
                self._tried[end[4]] = True

    def known_at_start(self, number, told):
        """The dict from the places that are found at a block's first spot to where they are there."""
        known = {place: self._places[place] for place in told}
        if self._begins_in_registers(number):
            for at, (place, _) in enumerate(self._blocks[number][0]):
                known[place] = f"r{at}"
        return known

    def _begins_in_registers(self, number):
        return number == 0 or number in self._tried

    def block_with(self, number, told):
        """A block in placed code; told tells what is found at its spots."""
        parameters, rows, end = self._blocks[number]
        found = [_context_with(rows[0], self.known_at_start(number, told[0]))]
        taken = ()
        if self._begins_in_registers(number):
            taken = tuple([(f"r{at}", kind) for at, (_, kind) in enumerate(parameters)])
            found.extend(self._moved([(self._places[place], f"r{at}") for at, (place, _) in enumerate(parameters)]))
        for at, row in enumerate(rows):
            if at > 0:
                found.extend(self._row_with(row, told[at]))
        more, last = self._end_with(end)
        return taken, tuple(found + more), last

    def _moved(self, pairs):
        return moved_at_once(pairs, self._helpers)

    def _into_first(self, places):
        """The moves of places into the first registers."""
        return self._moved([(f"r{at}", self._places[place]) for at, place in enumerate(places)])

    def _row_with(self, row, told):
        """The rows for one that is not its block's first one."""
        if is_context(row):
            return [_context_with(row, {place: self._places[place] for place in told})]
        if row[1] == "copy":
            return self._moved([(self._places[row[0]], self._places[row[2]])])
        if row[1] == "call":
            place, word, function, arguments = row
            called = ("r0", word, function, tuple([f"r{at}" for at in range(len(arguments))]))
            return [*self._into_first(arguments), called, *self._moved([(self._places[place], "r0")])]
        found, others = self._loaded(reads_of_row(row))
        if row[0] is None:
            return [*found, row_with(row, others)]
        target = self._places[row[0]]
        if target[0] == "r":
            return [*found, (target, *row_with(row, others)[1:])]
        return [*found, (self._helpers[0], *row_with(row, others)[1:]), (target, "copy", self._helpers[0])]

    def _loaded(self, reads):
        """Copies of those operands that lie in slots into helpers, and the dict from all operands to registers."""
        found = []
        others = {}
        for place in reads:
            if place not in others:
                others[place] = self._places[place]
                if others[place][0] == "s":
                    helper = f"r{int(self._helpers[0][1:]) + len(found)}"
                    found.append((helper, "copy", self._places[place]))
                    others[place] = helper
        return found, others

    def _end_with(self, end):
        """The rows ahead of an end, and the end."""
        word = end[0]
        if word == "jump":
            _, number, arguments = end
            targets = [self._places[place] for place, _ in self._blocks[number][0]]
            pairs = [(target, self._places[place]) for target, place in zip(targets, arguments)]
            return self._moved(pairs), ("jump", number, ())
        if word == "return":
            return self._into_first([end[1]]), ("return", "r0")
        if word == "try":
            _, function, arguments, block, other = end
            taken = tuple([f"r{at}" for at in range(len(arguments))])
            return self._into_first(arguments), ("try", function, taken, block, other)
        found, others = self._loaded(reads_of_end(end))
        return found, (word, others[end[1]], *end[2:])


def _context_with(row, known):
    """A context row that tells of places by a dict of where those that are found are; other formulas are lost."""
    _, word, frames = row
    found = []
    for function, point, variables in frames:
        told = [(name, kind, _formula_by(formula, known)) for name, kind, formula in variables]
        found.append((function, point, tuple(told)))
    return None, word, tuple(found)


def _formula_by(formula, known):
    return formula_with(formula, known) if _is_found(formula, known) else ("lost",)


def _is_found(formula, known):
    """Whether all places of a formula are found."""
    if formula[0] == "make":
        return all([_is_found(part, known) for part in formula[2]])
    return formula[0] != "of" or formula[1] in known
