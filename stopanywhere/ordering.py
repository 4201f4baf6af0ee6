"""Orders in which the blocks of a bundle are laid."""

from stopanywhere.shapes import is_block_number


def are_orders(bundle, thing):
    """Whether any value is a dict from the functions to tuples of the numbers of their blocks, 0 first."""
    if not isinstance(thing, dict) or len(thing) != len(bundle[2]):
        return False
    return all([code[0] in thing and _is_order(code[2], thing[code[0]]) for code in bundle[2]])


def _is_order(blocks, thing):
    if not isinstance(thing, tuple) or not all([is_block_number(number) for number in thing]):
        return False
    return thing[:1] == (0,) and sorted(thing) == sorted(blocks)


def ascending_orders(bundle):
    """The orders in which the blocks of each function are ascending."""
    orders = {code[0]: tuple(sorted(code[2])) for code in bundle[2]}
    return {name: orders[name] for name in sorted(orders)}
