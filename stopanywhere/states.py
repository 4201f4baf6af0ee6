"""States of runs of codes by their form."""

from stopanywhere.heapforms import is_heap
from stopanywhere.values import is_number, is_number_between, is_tuple_of
from stopanywhere.words import is_name


def is_state_by(thing, codes, scope, holdings):
    """Whether any value has the form of a state of codes, a dict from functions to their codes.

    holdings tells which places they hold where.
    """
    if not is_tuple_of(thing, 5):
        return False
    frames, heap, shown, end, events = thing
    if not isinstance(frames, tuple) or not all([_is_frame(frame, codes) for frame in frames]):
        return False
    called = [frame[0] for frame in frames[1:]] + [None]
    for frame, function in zip(frames, called):
        if not _holds_right(frame, function, codes, holdings):
            return False
    if not is_heap(heap, scope) or not isinstance(shown, tuple) or not all([is_number(number) for number in shown]):
        return False
    return _is_end(end, frames) and is_number(events) and events >= 0


def _is_frame(thing, codes):
    """Whether any value has the form of a frame at a spot of its function's code, whatever it holds."""
    if not is_tuple_of(thing, 4):
        return False
    function, number, at, places = thing
    if not isinstance(function, str) or function not in codes or not isinstance(places, dict):
        return False
    blocks = codes[function][2]
    if not is_number(number) or number not in blocks or not is_number_between(at, 0, len(blocks[number][1])):
        return False
    return all([is_number(word) for word in list(places.values())])


def _holds_right(frame, called, codes, holdings):
    """Whether a frame holds just what it must, and stands at a call or try of what it waits for, if it does."""
    function, number, at, places = frame
    if called is not None and _called_at(codes[function][2][number], at) != called:
        return False
    wanted = list(holdings.held_at(function, number, at))
    if called is not None:
        # Behind its taking the arguments a frame that waits holds no registers.
        wanted = [place for place in wanted if place[0] != "r"]
    return len(places) == len(wanted) and all([place in places for place in wanted])


def _called_at(block, at):
    """The function that the row or the end at this index calls, None if it calls none."""
    _, rows, end = block
    if at == len(rows):
        return end[1] if end[0] == "try" else None
    return rows[at][2] if rows[at][1] == "call" else None


def _is_end(thing, frames):
    if frames != ():
        return thing is None
    if not isinstance(thing, tuple) or thing == ():
        return False
    if thing[0] == "returned":
        return len(thing) == 2 and is_number(thing[1])
    return thing[0] == "failed" and len(thing) == 3 and is_number(thing[1]) and _is_trace(thing[2])


def _is_trace(thing):
    if not isinstance(thing, tuple) or thing == ():
        return False
    return all([_is_point(point) for point in thing])


def _is_point(thing):
    return is_tuple_of(thing, 2) and is_name(thing[0]) and is_number(thing[1]) and thing[1] >= 0
