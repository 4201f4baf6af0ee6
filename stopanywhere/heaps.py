"""Heaps: boxes at their addresses, what words of them look like, and moving them."""

from stopanywhere.errors import BadAddresses, BadHeap, BadScope, BadWords
from stopanywhere.forms import Scope
from stopanywhere.heapforms import addresses_met, is_heap, kinds_in_box
from stopanywhere.picturing import WordMeeting
from stopanywhere.values import ascending, first_again, is_list, is_number, is_number_between, is_tuple_of

MOST_ADDRESS = 1000000000


def made(heap, shape, words):
    """The pair of the least free address and the heap in which a box of this shape stands there."""
    address = 1
    while address in heap:
        address += 1
    found = {other: heap[other] for other in heap}
    found[address] = (shape, tuple(words))
    return address, ascending(found)


def pictures(scope, heap, words):
    """The pair of the pictures of words and of the rows that are met through them."""
    _addresses(scope, heap, words)
    meeting = WordMeeting(scope, heap)
    found = tuple([meeting.picture(kind, word) for kind, word in words])
    return found, meeting.rows_met()


def reached(scope, heap, words):
    """The list of the addresses that words come to."""
    return _addresses(scope, heap, words)


def moved(scope, heap, words, addresses):
    """The pair of the words and the heap with the boxes that are come to at other addresses, and no others."""
    met = _addresses(scope, heap, words)
    if not is_list(addresses) or len(addresses) != len(met):
        raise BadAddresses("no list of as many addresses as boxes are come to")
    if not all([is_number_between(address, 1, MOST_ADDRESS) for address in addresses]):
        raise BadAddresses("no number from 1 to 10 ** 9")
    if first_again(addresses) is not None:
        raise BadAddresses("one address for two boxes")
    others = dict(zip(met, addresses))
    found = {}
    for address in met:
        shape, held = heap[address]
        told = _other_words(list(zip(kinds_in_box(heap[address], scope), held)), others)
        found[others[address]] = (shape, tuple([word for _, word in told]))
    return _other_words(words, others), ascending(found)


def _other_words(words, others):
    """Pairs of kinds and words with other addresses; nothing stays nothing."""
    return [(kind, word if kind == "number" else others.get(word, 0)) for kind, word in words]


def _addresses(scope, heap, words):
    """The addresses that words come to; refuses a scope, a heap or words that are none."""
    if not isinstance(scope, Scope):
        raise BadScope("no scope")
    if not is_heap(heap, scope):
        raise BadHeap("no heap of boxes of the scope")
    if not is_list(words) or not all([is_tuple_of(pair, 2) and is_number(pair[1]) for pair in words]):
        raise BadWords("no list of pairs of a kind and a number")
    met = addresses_met(words, heap, scope)
    if met is None:
        raise BadWords("a word of no kind, or that tells no box of its kind")
    return met
