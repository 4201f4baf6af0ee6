"""Heaps by their form, and the boxes that words come to."""

from stopanywhere.running import MOST_ITEMS
from stopanywhere.values import is_number, is_tuple_of


def is_heap(thing, scope):
    """Whether any value is a heap by its form: boxes of shapes in scope, with as many words as these may have."""
    if not isinstance(thing, dict) or not all([is_number(address) and address >= 1 for address in thing]):
        return False
    return all([_is_box(box, scope) for box in list(thing.values())])


def _is_box(thing, scope):
    if not is_tuple_of(thing, 2) or not isinstance(thing[1], tuple) or not all([is_number(word) for word in thing[1]]):
        return False
    shape, words = thing
    kind = kind_of_shape(shape, scope)
    if kind is None:
        return False
    return len(words) <= MOST_ITEMS if kind == shape else len(words) == len(scope.fields(shape))


def kind_of_shape(shape, scope):
    """The kind of the boxes of a shape: of a variant its choice, a kind of rows itself; None of any other value."""
    for word, name, told in scope.kinds:
        if word == "row" and name == shape:
            return name
        if word == "choice" and shape in [variant for variant, _ in told]:
            return name
    return None


def kinds_in_box(box, scope):
    """The kinds of the words of a box, in their order."""
    shape, words = box
    if kind_of_shape(shape, scope) == shape:
        return [scope.item(shape) for _ in words]
    return list(scope.fields(shape))


def addresses_met(words, heap, scope):
    """The list of the addresses that pairs (kind, word) come to: those of the words, then box by box in this order.

    None if one of these words, or of the words in these boxes, is none of its kind.
    """
    found = []
    met = {}
    if not _meet(words, heap, scope, found, met):
        return None
    at = 0
    while at < len(found):
        box = heap[found[at]]
        if not _meet(list(zip(kinds_in_box(box, scope), box[1])), heap, scope, found, met):
            return None
        at += 1
    return found


def _meet(words, heap, scope, found, met):
    """Adds the addresses that words tell and that are not met yet; whether all the words are of their kinds."""
    for kind, word in words:
        if not _is_word(kind, word, heap, scope):
            return False
        if kind != "number" and word != 0 and word not in met:
            met[word] = True
            found.append(word)
    return True


def _is_word(kind, word, heap, scope):
    if kind == "number" or kind not in [name for _, name, _ in scope.kinds]:
        return kind == "number"
    return word == 0 or (word in heap and kind_of_shape(heap[word][0], scope) == kind)
