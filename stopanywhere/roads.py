"""Roads through named code: which blocks stand ahead of which, who reads a place, and rings of calls."""

from stopanywhere.blocks import calls_in_code
from stopanywhere.charts import Chart
from stopanywhere.checks import check_block, check_codes, check_given, check_key, check_named
from stopanywhere.graphs import least_way_past
from stopanywhere.rings import ring_of_calls


def ahead_of(scope, code, block):
    """The ascending tuple of the blocks that stand ahead of a block."""
    check_named(scope, code)
    chart = Chart(code, scope)
    check_block(chart.blocks, block)
    return tuple(sorted(chart.nest.ahead_of(block)))


def way_past(scope, code, block, other):
    """The least of the shortest ways to a block on which another one does not stand, None if there is none."""
    check_named(scope, code)
    chart = Chart(code, scope)
    check_block(chart.blocks, block)
    check_block(chart.blocks, other)
    return least_way_past(chart.leads, 0, block, other)


def readers(scope, code, place):
    """The ascending tuple of the spots whose row or end reads a place."""
    check_named(scope, code)
    chart = Chart(code, scope)
    check_given(chart, place)
    return tuple(chart.readers[place])


def ring_of(scope, codes, name):
    """The least of the shortest tuples of keys in which each one calls the next, from a name to itself again."""
    check_codes(scope, codes)
    check_key(codes, name)
    return ring_of_calls({key: calls_in_code(codes[key]) for key in codes}, name)
