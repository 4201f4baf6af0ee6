"""Tables: what is told of each spot of a code, for a frame that runs and for one that waits."""

from stopanywhere.checks import check_spot
from stopanywhere.errors import BadCode, BadWaiting
from stopanywhere.forms import is_named, is_placed
from stopanywhere.telling import Teller
from stopanywhere.values import ascending


def roots_at(code, scope, spot, waiting):
    """The list of the roots at a spot, in place order."""
    teller = _checked_teller(code, scope, spot, waiting)
    number, at = spot
    return teller.roots(number, at, waiting)


def told_at(code, scope, spot, waiting):
    """The frames that are told at a spot."""
    teller = _checked_teller(code, scope, spot, waiting)
    number, at = spot
    return teller.frames(number, at, waiting)


def table(code, scope):
    """The ascending dict from all spots to the roots and the frames, of a frame that runs and of one that waits."""
    teller = _teller(code, scope)
    found = {}
    for number in sorted(code[2]):
        for at in range(len(code[2][number][1]) + 1):
            waiting = (None, None)
            if teller.can_wait(number, at):
                waiting = (teller.roots(number, at, True), teller.frames(number, at, True))
            found[(number, at)] = (teller.roots(number, at, False), teller.frames(number, at, False), *waiting)
    return ascending(found)


def _teller(code, scope):
    if not is_named(code, scope) and not is_placed(code, scope, 9):
        raise BadCode("neither named code nor placed code for 9 registers")
    return Teller(code, scope)


def _checked_teller(code, scope, spot, waiting):
    teller = _teller(code, scope)
    check_spot(code[2], spot)
    if not isinstance(waiting, bool) or (waiting and not teller.can_wait(spot[0], spot[1])):
        raise BadWaiting("neither True nor False, or no frame can wait there")
    return teller
