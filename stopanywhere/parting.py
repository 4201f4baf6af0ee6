"""Parting: numbers for places by which two terms come to different numbers."""

from stopanywhere.running import reckoned
from stopanywhere.sums import added, atoms_in, turned, with_value
from stopanywhere.values import ascending


def parting_numbers(book, pairs, facts, held):
    """The numbers of the held places of numbers by which the first pair that can be parted is; None if there is none.

    Terms can be parted if their atoms are held places of numbers. held tells the kinds of the held places, all those
    in facts being numbers.
    """
    for one, other in pairs:
        if one is not None and other is not None and _are_of_numbers(book, [one, other], held):
            chosen = _chosen(added(one, turned(other)))
            numbers = {place: 0 for place in held if held[place] == "number"}
            for atom in chosen:
                _, place = book.told_atom(atom)
                numbers[place] = chosen[atom]
            for row in facts:
                numbers[row[0]] = _worth_of(row, numbers)
            return ascending(numbers)
    return None


def _are_of_numbers(book, terms, held):
    for term in terms:
        for atom in atoms_in(term):
            told = book.told_atom(atom)
            if told[0] != "place" or held[told[1]] != "number":
                return False
    return True


def _chosen(difference):
    """Numbers for the atoms of a sum that is not 0, by which it is not 0 either."""
    found = {}
    for atom in atoms_in(difference):
        value = 0
        # Only as many numbers as the atom stands in one product at most make all of it 0.
        while with_value(difference, atom, value) == ():
            value += 1
        found[atom] = value
        difference = with_value(difference, atom, value)
    return found


def _worth_of(row, numbers):
    """What a pure row over numbers gives."""
    word = row[1]
    if word == "const":
        return row[2]
    if word == "copy":
        return numbers[row[2]]
    if word == "not":
        return int(numbers[row[2]] == 0)
    return int(reckoned(word, numbers[row[2]], numbers[row[3]]))
