"""Terms: sums over atoms that are numbered by what they are."""

from stopanywhere.sums import (
    added, atom_of, has_long_number, is_large, multiplied, number_of, one_less, sum_of_atom, sum_of_number, turned,
)

# What less, atmost, same and not give is 0 or 1.
TRUTHS = ("above", "zero")


class TermBook:
    """The atoms that were met so far, and the terms of what is worked out of others. A term is a sum over them."""

    def __init__(self, scope):
        self._scope = scope
        self._numbers = {}
        self._atoms = []

    def atom(self, *told):
        """The term that is the atom of this word and its parts."""
        if told not in self._numbers:
            self._numbers[told] = len(self._atoms)
            self._atoms.append(told)
        return sum_of_atom(self._numbers[told])

    def told_of(self, term):
        """The word and the parts of the atom that a term is, () if it is none."""
        atom = atom_of(term)
        return () if atom is None else self._atoms[atom]

    def told_atom(self, atom):
        """The word and the parts of an atom, by its number in sums."""
        return self._atoms[atom]

    def reckoned(self, word, terms):
        """The term of a row of a word over numbers."""
        if word == "not":
            return self.zero(terms[0])
        one, other = terms
        if word == "plus":
            return self._bounded_sum(one, other)
        if word == "minus":
            return self._difference(one, other)
        if word == "times":
            return self._product(one, other)
        if word == "less":
            return self.above(self._difference(other, one))
        if word == "atmost":
            return one_less(self.above(self._difference(one, other)))
        return self.zero(self._difference(one, other))

    def _bounded_sum(self, one, other):
        found = added(one, other)
        return self._big("plus", one, other) if is_large(found) else found

    def _difference(self, one, other):
        return self._bounded_sum(one, turned(other))

    def _product(self, one, other):
        for factor, told in ((one, other), (other, one)):
            if number_of(factor) == 1:
                return told
            if number_of(factor) == -1:
                return turned(told)
        found = multiplied(one, other)
        return self._big("times", one, other) if is_large(found) or has_long_number(found) else found

    def _big(self, word, one, other):
        return self.atom("big", word, min(one, other), max(one, other))

    def above(self, term):
        """1 if a term is greater than 0, otherwise 0."""
        number = number_of(term)
        if number is not None:
            return sum_of_number(int(number > 0))
        other = one_less(term)
        return self.atom("above", term) if term < other else one_less(self.atom("above", other))

    def zero(self, term):
        """1 if a term is 0, otherwise 0."""
        number = number_of(term)
        if number is not None:
            return sum_of_number(int(number == 0))
        for told in (term, turned(term)):
            if self.is_truth(told):
                return one_less(told)
        return self.atom("zero", min(term, turned(term)))

    def is_truth(self, term):
        """Whether a term is an atom above(..) or zero(..), or 1 less such a one."""
        told = self.told_of(term) + self.told_of(one_less(term))
        return told != () and told[0] in TRUTHS

    def tag(self, term):
        if term == ():
            return ()
        # What tells a box, and is not 0, is an atom.
        told = self.told_of(term)
        if told[0] == "make":
            return sum_of_number(self._scope.variants(self._scope.choice(told[1])).index(told[1]))
        return self.atom("tag", term)

    def part(self, variant, at, term):
        if term == ():
            return ()
        told = self.told_of(term)
        if told[0] == "make":
            return told[2][at] if told[1] == variant else ()
        return self.atom("part", variant, at, term)

    def long(self, kind, term):
        return () if term == () else self.atom("long", kind, term)

    def row_term(self, row, terms):
        """The term of what a pure row gives, by a dict from places to terms."""
        word = row[1]
        if word == "const":
            return sum_of_number(row[2])
        if word == "copy":
            return terms[row[2]]
        if word == "make":
            return self.atom("make", row[2], tuple([terms[place] for place in row[3]]))
        if word == "tag":
            return self.tag(terms[row[2]])
        if word == "part":
            return self.part(row[2], row[3], terms[row[4]])
        if word == "long":
            return self.long(row[2], terms[row[3]])
        return self.reckoned(word, [terms[place] for place in row[2:]])
