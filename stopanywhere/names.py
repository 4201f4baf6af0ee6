"""Names: what is in sight, the faults of a unit, and the order of units."""

from stopanywhere.errors import BadPoint, BadTree, BadUnits, NoUnit, UsesRing
from stopanywhere.faulting import FaultFinder
from stopanywhere.parts import ends_block
from stopanywhere.rings import order_by_uses, shortest_ring, users_by_uses
from stopanywhere.sights import check_unit, passages
from stopanywhere.trees import is_block, is_function, is_unit
from stopanywhere.values import is_list, is_number_between


def in_sight(function, point):
    """The tuple of the variables in sight when the statement of this point begins, in the order of the text."""
    if not is_function(function):
        raise BadTree("no function")
    met = passages(function)
    if not is_number_between(point, 0, len(met) - 1):
        raise BadPoint("no point of a statement")
    _, names, _ = met[point]
    return names


def does_end(block):
    """Whether a block ends, so that nothing behind it is ever reached."""
    if not is_block(block):
        raise BadTree("no block")
    return ends_block(block)


def faults(unit, faces):
    """The list of all faults of a unit, tuples (function, point, word, name)."""
    check_unit(unit, faces)
    return FaultFinder(unit, faces).all_faults()


def order_of(units):
    """The tuple of the names of units, each behind those that it uses."""
    uses = _checked_uses(units)
    found = order_by_uses(uses)
    if len(found) < len(uses):
        raise UsesRing(shortest_ring(uses))
    return found


def users_of(units, name):
    """The ascending tuple of the units that come to a unit by uses, one after another, without this one."""
    uses = _checked_uses(units)
    if name not in list(uses):
        raise NoUnit(name)
    return users_by_uses(uses, name)


def _checked_uses(units):
    """The dict from the names of units to the names that they use."""
    if not is_list(units) or len(units) == 0:
        raise BadUnits(None)
    uses = {}
    for at, unit in enumerate(units):
        if not is_unit(unit) or unit[1] in uses:
            raise BadUnits(at)
        uses[unit[1]] = unit[2]
    for used in list(uses.values()):
        for name in used:
            if name not in uses:
                raise NoUnit(name)
    return uses
