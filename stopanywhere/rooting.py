"""Roots of states: the words through which boxes are still wanted, and boxes that are moved."""

from stopanywhere.heaps import moved, reached
from stopanywhere.values import ascending


def roots_in(codes, state):
    """The list of the triples (number of the frame, place, kind) of all roots of a state."""
    frames = state[0]
    found = []
    for at, (function, number, index, _) in enumerate(frames):
        teller = codes.teller(function)
        kinds = teller.held_at(number, index)
        roots = teller.roots(number, index, at < len(frames) - 1)
        found.extend([(at, place, kinds[place]) for place in roots])
    return found


def root_words(codes, state):
    """The pairs (kind, word) of all roots of a state."""
    return [(kind, state[0][at][3][place]) for at, place, kind in roots_in(codes, state)]


def reached_in(codes, state):
    """The list of the addresses that the roots of a state come to."""
    return reached(codes.scope, state[1], root_words(codes, state))


def collected_state(codes, state, addresses):
    """The state with its boxes moved, and those that no root comes to gone; refuses wrong addresses."""
    frames, heap, shown, end, events = state
    words, found = moved(codes.scope, heap, root_words(codes, state), addresses)
    places = [dict(frame[3]) for frame in frames]
    for (at, place, _), (_, word) in zip(roots_in(codes, state), words):
        places[at][place] = word
    others = [(*frame[:3], ascending(held)) for frame, held in zip(frames, places)]
    # At the end nothing is a root, but the worth that was returned may still be asked for.
    kept = found if end is None else {address: heap[address] for address in sorted(heap)}
    return tuple(others), kept, tuple(shown), end, events
