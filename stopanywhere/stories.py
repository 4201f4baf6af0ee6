"""Stories: how the place of a row is told by others."""

from stopanywhere.charts import Chart
from stopanywhere.checks import check_named, check_spot
from stopanywhere.errors import BadSpot
from stopanywhere.retelling import story_of


def story(scope, code, spot):
    """The story of a row, None if it has none."""
    check_named(scope, code)
    chart = Chart(code, scope)
    check_spot(chart.blocks, spot)
    number, at = spot
    rows = chart.blocks[number][1]
    if at == len(rows) or rows[at][0] is None:
        raise BadSpot("no row that gives a place")
    return story_of(rows[at], chart.blocks, chart.givers)
