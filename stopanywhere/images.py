"""Images: bundles as bits, with a table of what the bits do not tell."""

from stopanywhere.errors import BadAddress, BadBundle, BadImage, BadLayout, BadOrders, BadSpot
from stopanywhere.imaging import image_by, read_out
from stopanywhere.objectforms import copied_bundle, has_bundle_form
from stopanywhere.ordering import are_orders, ascending_orders
from stopanywhere.plots import Plot, is_layout_of, least_long
from stopanywhere.values import ascending, is_number, is_tuple_of


def image_of(bundle, orders, long):
    """The image of a bundle, its blocks in these orders, with these long leaps."""
    _check_bundle(bundle)
    if not are_orders(bundle, orders):
        raise BadOrders("no orders of the bundle")
    plot = Plot(bundle, orders)
    if not is_layout_of(plot, long):
        raise BadLayout("no layout of the bundle")
    return image_by(plot, long)


def image(bundle):
    """The image of a bundle, its blocks in ascending orders, with as few long leaps as can be."""
    _check_bundle(bundle)
    plot = Plot(bundle, ascending_orders(bundle))
    return image_by(plot, least_long(plot))


def is_image(thing):
    """Whether any value is an image."""
    return read_out(thing) is not None


def read_image(image):
    """The triple of the bundle, the orders and the long leaps of an image."""
    plot, long = _read(image)
    return copied_bundle(plot.bundle), ascending(plot.orders), long


def spot_at(image, address):
    """The spot to which the instruction belongs that begins at an address."""
    plot, long = _read(image)
    addresses = plot.addresses(long)[:-1]
    if not is_number(address) or address not in addresses:
        raise BadAddress("no instruction begins there")
    return plot.pieces[addresses.index(address)].spot


def spot_behind(image, address):
    """The spot to which the instruction belongs that ends directly ahead of an address."""
    plot, long = _read(image)
    addresses = plot.addresses(long)[1:]
    if not is_number(address) or address not in addresses:
        raise BadAddress("no instruction ends there")
    return plot.pieces[addresses.index(address)].spot


def address_of(image, spot):
    """The address of the first bit of a spot, of one without bits that of what comes behind it."""
    plot, long = _read(image)
    addresses = plot.spot_addresses(long)
    if not is_tuple_of(spot, 3) or not isinstance(spot[0], str) or not all([is_number(part) for part in spot[1:]]):
        raise BadSpot("no triple of a function, a block and a row")
    if spot not in addresses:
        raise BadSpot("no spot of the image")
    return addresses[spot]


def _check_bundle(bundle):
    if not has_bundle_form(bundle):
        raise BadBundle("no bundle")


def _read(thing):
    found = read_out(thing)
    if found is None:
        raise BadImage("no image")
    return found
