"""Terms of the places of named code."""

from stopanywhere.charts import Chart
from stopanywhere.checks import check_given, check_named
from stopanywhere.sums import number_of


def told_number(scope, code, place):
    """The number that the term of a place is, None if it is none."""
    check_named(scope, code)
    chart = Chart(code, scope)
    check_given(chart, place)
    return number_of(chart.terms()[place])


def told_same(scope, code, place, other):
    """Whether two places have the same term."""
    check_named(scope, code)
    chart = Chart(code, scope)
    check_given(chart, place)
    check_given(chart, other)
    return chart.terms()[place] == chart.terms()[other]
