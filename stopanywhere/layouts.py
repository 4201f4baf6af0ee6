"""Layouts: which leaps of a bundle are long."""

from stopanywhere.errors import BadBundle, BadLayout, BadLeap, BadLong, BadOrders
from stopanywhere.objectforms import has_bundle_form
from stopanywhere.ordering import are_orders, ascending_orders
from stopanywhere.plots import Plot, has_layout_form, is_layout_of, is_leap_name, is_near, least_long, reasons_of
from stopanywhere.values import first_again


def plain_orders(bundle):
    """The orders in which the blocks of each function are ascending."""
    _check_bundle(bundle)
    return ascending_orders(bundle)


def leaps(bundle, orders):
    """The list of all leaps, in the order of the bits."""
    return list(_plot(bundle, orders).leaps)


def distance(bundle, orders, long, leap):
    """The distance that a leap tells, if just some leaps are long."""
    plot = _plot_with(bundle, orders, long)
    if not is_leap_name(plot, leap):
        raise BadLeap("no leap of the bundle")
    return plot.distances(long)[leap]


def size(bundle, orders, long):
    """The number of all bits, if just some leaps are long."""
    return _plot_with(bundle, orders, long).addresses(long)[-1]


def is_layout(bundle, orders, thing):
    """Whether any value is a layout."""
    return is_layout_of(_plot(bundle, orders), thing)


def meet(bundle, orders, one, other):
    """The ascending tuple of the leaps that are long in both layouts."""
    plot = _plot(bundle, orders)
    for told in (one, other):
        if not is_layout_of(plot, told):
            raise BadLayout("no layout of the bundle")
    return tuple([leap for leap in one if leap in other])


def least_layout(bundle, orders):
    """The layout that lies within each other one."""
    return least_long(_plot(bundle, orders))


def reasons(bundle, orders):
    """The leaps of the least layout, each far away for those ahead of it."""
    return tuple(reasons_of(_plot(bundle, orders)))


def is_reasons(bundle, orders, thing):
    """Whether any value is a tuple of leaps that are far away each for those ahead of it, all others being near."""
    plot = _plot(bundle, orders)
    if not isinstance(thing, tuple) or not all([is_leap_name(plot, leap) for leap in thing]):
        return False
    if first_again(thing) is not None:
        return False
    for at, leap in enumerate(thing):
        if is_near(plot.distances(thing[:at])[leap]):
            return False
    return plot.far(thing) == []


def _check_bundle(bundle):
    if not has_bundle_form(bundle):
        raise BadBundle("no bundle")


def _plot(bundle, orders):
    _check_bundle(bundle)
    if not are_orders(bundle, orders):
        raise BadOrders("no orders of the bundle")
    return Plot(bundle, orders)


def _plot_with(bundle, orders, long):
    plot = _plot(bundle, orders)
    if not has_layout_form(plot, long):
        raise BadLong("no ascending tuple of leaps")
    return plot
