"""What functions over code refuse of what they are passed."""

from stopanywhere.errors import BadBlock, BadCode, BadCodes, BadPlace, BadScope, BadSpot, NoFunction
from stopanywhere.forms import Scope, is_named
from stopanywhere.values import is_number, is_number_between, is_tuple_of
from stopanywhere.words import is_name


def check_named(scope, code):
    """Refuses what is no scope, then what is no named code in it."""
    if not is_named(code, scope):
        raise BadCode("no named code")


def check_codes(scope, codes):
    """Refuses what is no scope, then what is no dict of named codes by their functions' names."""
    if not isinstance(scope, Scope):
        raise BadScope("no scope")
    if not isinstance(codes, dict) or not all([is_name(name) for name in codes]):
        raise BadCodes(None)
    for name in sorted(codes):
        if not is_named(codes[name], scope) or codes[name][0] != name:
            raise BadCodes(name)


def check_key(codes, name):
    """Refuses what is no key of codes."""
    if not isinstance(name, str) or name not in codes:
        raise NoFunction(name)


def check_spot(blocks, spot):
    """Refuses what is no pair of a block and the index of a row or, behind the rows, of the end."""
    if not is_tuple_of(spot, 2) or not is_number(spot[0]) or spot[0] not in blocks:
        raise BadSpot("no block of the code")
    if not is_number_between(spot[1], 0, len(blocks[spot[0]][1])):
        raise BadSpot("no row and no end of the block")


def check_block(blocks, block):
    """Refuses what is no number of a block."""
    if not is_number(block) or block not in blocks:
        raise BadBlock("no block of the code")


def check_given(chart, place):
    """Refuses what is no place that a code gives."""
    if not isinstance(place, str) or place not in chart.givers:
        raise BadPlace("no place that the code gives")
