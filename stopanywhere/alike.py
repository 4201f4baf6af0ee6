"""Units that are alike but for names."""

from stopanywhere.errors import BadNames, BadTree
from stopanywhere.renaming import Numbering, Replacing, renamed_unit
from stopanywhere.trees import is_unit
from stopanywhere.values import first_again
from stopanywhere.words import is_name


def is_like(one, other):
    """Whether two units are equal but for their names, put one to one in the place of one another."""
    if not is_unit(one) or not is_unit(other):
        raise BadTree("no unit")
    # Names that are put one to one have the same numbers, if both sides are numbered from their beginning on.
    return renamed_unit(one, Numbering()) == renamed_unit(other, Numbering())


def with_names(unit, names):
    """The unit with the worths of a dict in the place of its keys, whatever they name."""
    if not is_unit(unit):
        raise BadTree("no unit")
    if not _is_one_to_one(names):
        raise BadNames("no dict from names to names, different for different ones")
    renamer = Replacing(names)
    found = renamed_unit(unit, renamer)
    if first_again([names.get(name, name) for name in renamer.met()]) is not None:
        raise BadNames("two names of the unit would become one")
    return found


def _is_one_to_one(names):
    if not isinstance(names, dict) or not all([is_name(name) for name in names]):
        return False
    others = list(names.values())
    return all([is_name(other) for other in others]) and first_again(others) is None
