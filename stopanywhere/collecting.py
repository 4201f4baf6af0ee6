"""Collecting: boxes of states moved, and those let go that nothing comes to any more."""

from stopanywhere.errors import BadState, BadWalk
from stopanywhere.heaps import pictures
from stopanywhere.rooting import collected_state, reached_in, root_words, roots_in
from stopanywhere.runner import Codes


def roots_of(codes, state):
    """The list of the triples (number of the frame, place, kind) of all roots of a state."""
    _check_states(codes, [state])
    return roots_in(codes, state)


def reached_of(codes, state):
    """The list of the addresses that the roots of a state come to."""
    _check_states(codes, [state])
    return reached_in(codes, state)


def collected(codes, state, addresses):
    """The state with the boxes that roots come to at these addresses, and no others."""
    _check_states(codes, [state])
    return collected_state(codes, state, addresses)


def alike_states(codes, state, other):
    """Whether all that is wanted is the same in two states, but for where boxes stand."""
    _check_states(codes, [state, other])
    if [frame[:3] for frame in state[0]] != [frame[:3] for frame in other[0]]:
        return False
    if state[2] != other[2] or state[4] != other[4] or _asked_end(state) != _asked_end(other):
        return False
    if _wanted_numbers(codes, state) != _wanted_numbers(codes, other):
        return False
    scope = codes.scope
    return pictures(scope, state[1], root_words(codes, state)) == pictures(scope, other[1], root_words(codes, other))


def _asked_end(state):
    """The end, without the word that was returned."""
    end = state[3]
    return ("returned",) if end is not None and end[0] == "returned" else end


def _wanted_numbers(codes, state):
    """The words of the wanted places of numbers, frame by frame."""
    frames = state[0]
    found = []
    for at, (function, number, index, places) in enumerate(frames):
        teller = codes.teller(function)
        kinds = teller.held_at(number, index)
        wanted = teller.wanted_at(number, index, at < len(frames) - 1)
        found.append([places[place] for place in wanted if kinds[place] == "number"])
    return found


def _check_states(codes, states):
    if not isinstance(codes, Codes):
        raise BadWalk("no codes")
    for state in states:
        if not codes.is_state(state):
            raise BadState("no state of these codes")
