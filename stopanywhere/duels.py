"""Duels: both sides led through a block of the new code, by terms."""

from stopanywhere.blocks import frames_of, is_context, is_pure, leads_to, reads_of_end, reads_of_row
from stopanywhere.oldsides import OldSide, decided, level_of_anchor, without_registers
from stopanywhere.sayings import formula_term, points_of, said_frames, unlike_frames
from stopanywhere.termbook import TermBook

# What a row or an end names beside its places must be the same on both sides: the kind, or the function.
NAMED = ("new", "at", "put", "call", "try")


class Duel:
    """The walk of a block. terms are those of the new side's places; said are the frames that it says.

    What is not so is a pair: the word, and pairs of terms, of the new and the old side, that differ.
    """

    def __init__(self, case, paper, number):
        self._case = case
        self._paper = paper
        self.block = case.code[2][number]
        self.book = TermBook(case.scope)
        anchor, facts, self.is_late = paper[number]
        self.terms = {place: self.book.atom("place", place) for place in sorted(case.new_held[number])}
        for row in facts:
            self.terms[row[0]] = self.book.row_term(row, self.terms)
        levels = [level_of_anchor(case, self.book, level, self.terms) for level in reversed(anchor)]
        self.old = OldSide(case, self.book, levels, {})
        self.said = ()
        self._fresh = 0

    def first_wrong(self):
        """The first thing that is not so, None if all is: its index, what it is, and whether numbers can part it."""
        _, rows, end = self.block
        for at, row in enumerate(rows):
            wrong = self._go_over(row, at)
            if wrong is not None:
                return at, wrong, self._is_plain(at)
        action = END_WALKS[end[0]]
        found = action(self, end)
        if found is None:
            return None
        wrong, is_open = found
        return len(rows), wrong, is_open and self._is_plain(len(rows))

    def _is_plain(self, at):
        """Whether no rows go ahead but context rows, shows and pure ones."""
        return all([is_context(row) or is_pure(row) or row[1] == "show" for row in self.block[1][:at]])

    def _go_over(self, row, at):
        if is_pure(row):
            self.terms[row[0]] = self.book.row_term(row, self.terms)
            return None
        if is_context(row):
            self.said = said_frames(self.book, frames_of(row), self.terms)
            if row[1] == "still":
                return self._still()
            return self._point(row, at)
        return self._act(row)

    def _point(self, row, at):
        """Goes over a mark or a back."""
        if row[1] == "mark":
            self.old.stand(False)
            standing = self.old.row()
            if standing is None or standing[1] != "mark":
                return "stands", []
            self.old.pass_context(standing)
        elif (at > 0 or not self.is_late) and not self.old.come_back():
            return "stands", []
        wrong = unlike_frames(self.said, self.old.all_said())
        return ("frames", []) if wrong == ("points", []) else wrong

    def _still(self):
        wrong = unlike_frames(self.said, self.old.all_said())
        while wrong is not None and self.old.go_quietly(False):
            wrong = unlike_frames(self.said, self.old.all_said())
        return ("stands", []) if wrong == ("points", []) else wrong

    def _act(self, row):
        """Goes over an acting row."""
        self.old.stand(row[1] == "call")
        standing = self.old.row()
        if standing is None or not _is_same_deed(row[1:], standing[1:]):
            return "stands", []
        wrong = self._unlike(reads_of_row(row), reads_of_row(standing))
        if wrong is not None:
            return wrong
        term = self._fresh_atom()
        self.old.pass_acting(standing, term)
        if row[1] == "call":
            self.terms = without_registers(self.terms)
        if row[0] is not None:
            self.terms[row[0]] = term
        return None

    def _fresh_atom(self):
        self._fresh += 1
        return self.book.atom("fresh", self._fresh)

    def _unlike(self, reads, old_reads):
        """What is not so of the frames of both sides and of the terms of what they read."""
        if points_of(self.said) != points_of(self.old.all_said()):
            return "frames", []
        return self.unlike_terms(reads, old_reads)

    def unlike_terms(self, reads, old_reads):
        terms = [self.terms[place] for place in reads]
        pairs = [pair for pair in zip(terms, self.old.terms_of(old_reads)) if pair[0] != pair[1]]
        return ("terms", pairs) if pairs else None

    def arrive(self, old, number, terms):
        """What is not so where the new side comes to a block, with these terms; the old side is led there."""
        anchor, facts, is_late = self._paper[number]
        if is_late and not old.come_back():
            return "stands", []
        spots = [level[:3] for level in anchor]
        while old.spots() != spots:
            if not old.go_quietly(False):
                return "stands", []
        for level, known in zip(anchor, old.level_terms()):
            equations = level[3]
            for place in sorted(equations):
                pair = (formula_term(self.book, equations[place], terms), known.get(place))
                if pair[0] != pair[1]:
                    return "equation", [pair]
        for row in facts:
            pair = (terms[row[0]], self.book.row_term(row, terms))
            if pair[0] != pair[1]:
                return "fact", [pair]
        return None if old.has_moved or self._has_deeds() else ("idle", [])

    def _has_deeds(self):
        """Whether the block has a mark, a back or an acting row."""
        return any([not is_pure(row) and row[1] != "still" for row in self.block[1]])

    def terms_into(self, number, terms, arguments):
        """The terms at the first spot of a block, whose parameters get those of arguments."""
        found = dict(terms)
        for (place, _), term in zip(self._case.code[2][number][0], arguments):
            found[place] = term
        return found

    def ends_alike(self, end):
        """What is not so at a fail or a try, of whatever level of the old side."""
        self.old.stand(False)
        standing = self.old.end()
        if standing is None or not _is_same_deed(end, standing):
            return "stands", []
        return self._unlike(reads_of_end(end), reads_of_end(standing))

    def both_ways(self, end):
        """What is not so on the ways of a try."""
        for way, number in enumerate(leads_to(end)):
            old = self.old.forked(self.old.assumed)
            term = self._fresh_atom()
            old.go_over_try(way, term)
            wrong = self.arrive(old, number, self.terms_into(number, without_registers(self.terms), [term]))
            if wrong is not None:
                return wrong
        return None


def _is_same_deed(told, other):
    """Whether what stands in two rows, or ends, from their words on is of the same word, and of the same kind."""
    return told[0] == other[0] and (told[0] not in NAMED or told[1] == other[1])


def _walk_jump(duel, end):
    _, number, arguments = end
    terms = duel.terms_into(number, duel.terms, [duel.terms[place] for place in arguments])
    wrong = duel.arrive(duel.old, number, terms)
    return None if wrong is None else (wrong, True)


def _walk_branch(duel, end):
    _, place, first, second = end
    term = duel.terms[place]
    way = decided(duel.book, {}, term)
    if way is not None:
        wrong = duel.arrive(duel.old, first if way else second, duel.terms)
        return None if wrong is None else (wrong, True)
    for number, is_first in ((first, True), (second, False)):
        wrong = duel.arrive(duel.old.forked({term: is_first}), number, duel.terms)
        if wrong is not None:
            return wrong, False
    return None


def _walk_return(duel, end):
    duel.old.stand(False)
    standing = duel.old.end()
    if standing is None or standing[0] != "return" or duel.old.depth() > 1:
        return ("stands", []), True
    wrong = duel.unlike_terms(reads_of_end(end), reads_of_end(standing))
    return None if wrong is None else (wrong, True)


def _walk_fail(duel, end):
    wrong = duel.ends_alike(end)
    return None if wrong is None else (wrong, True)


def _walk_try(duel, end):
    wrong = duel.ends_alike(end)
    if wrong is not None:
        return wrong, True
    wrong = duel.both_ways(end)
    return None if wrong is None else (wrong, False)


END_WALKS = {"jump": _walk_jump, "branch": _walk_branch, "return": _walk_return, "fail": _walk_fail, "try": _walk_try}
