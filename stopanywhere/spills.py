"""Spills: which places lie in slots, and prices that show that no others would be better."""

from stopanywhere.blocks import reads_of_end, reads_of_row
from stopanywhere.crowding import Crowd
from stopanywhere.errors import BadPrices, BadRoom, BadSpans, NotStraight
from stopanywhere.pricing import least_left, worth_of
from stopanywhere.values import is_list, is_number, is_number_between, is_tuple_of
from stopanywhere.wanted import carried
from stopanywhere.wants import alive_places, in_place_order

MOST_SPANS = 400
MOST_POSITION = 999


def least(spans, room):
    """The pair of the ascending list of the spans that are left out at the least cost, and of prices that show it."""
    _check_spans(spans)
    _check_room(room, 0)
    return least_left(spans, room)


def worth(spans, room, prices):
    """What prices are worth: the cost of the spans that are left out cannot be less."""
    _check_spans(spans)
    _check_room(room, 0)
    if not is_list(prices) or len(prices) > MOST_POSITION + 1:
        raise BadPrices("no list of at most 1000 prices")
    if not all([is_number(price) and price >= 0 for price in prices]):
        raise BadPrices("no number from 0 on")
    return worth_of(spans, room, prices)


def _check_spans(spans):
    if not is_list(spans) or len(spans) > MOST_SPANS:
        raise BadSpans(None)
    for at, span in enumerate(spans):
        if not is_tuple_of(span, 3) or not is_number_between(span[1], 0, MOST_POSITION):
            raise BadSpans(at)
        if not is_number_between(span[0], 0, span[1]) or not is_number(span[2]) or span[2] < 0:
            raise BadSpans(at)


def _check_room(room, low):
    if not is_number_between(room, low, 20):
        raise BadRoom("no number in reach")


def slots(code, room):
    """The dict, in place order, from the places that lie in slots to the reasons why."""
    _check_room(room, 1)
    reasons = {place: ("call", *spot) for place, spot in carried(code).items()}
    alive = alive_places(code[2])
    crowd = Crowd(alive, room, reasons)
    if list(code[2]) == [0]:
        spans = _spans(code)
        left, _ = least_left([span for _, span in spans], room)
        others = [spans[at][0] for at in left]
        for place in others:
            crowd.put_out(place)
    else:
        others = crowd.crowded_out(_costs(code))
    for place in others:
        reasons[place] = ("full", *crowd.full_spot(place))
    return {place: reasons[place] for place in in_place_order(list(reasons))}


def spans_of(code):
    """The list of the pairs (place, span) of the places of a code of one block that are not carried."""
    _check_straight(code)
    return _spans(code)


def prices_of(code, room):
    """Prices for the spans of a code of one block, that show that slots costs as little as can be."""
    _check_room(room, 1)
    _check_straight(code)
    _, prices = least_left([span for _, span in _spans(code)], room)
    return prices


def _check_straight(code):
    if list(code[2]) != [0]:
        raise NotStraight("more than one block")


def _spans(code):
    kept = carried(code)
    costs = _costs(code)
    spots = {}
    for at, places in enumerate(alive_places(code[2])[0]):
        for place in places:
            spots.setdefault(place, []).append(at)
    found = []
    for place in in_place_order([place for place in spots if place not in kept]):
        found.append((place, (spots[place][0], spots[place][-1], costs.get(place, 0))))
    return found


def _costs(code):
    """The dict from places to how many rows and ends read them, but for those that nobody reads."""
    found = {}
    for _, rows, end in list(code[2].values()):
        for places in [reads_of_row(row) for row in rows] + [reads_of_end(end)]:
            for place in sorted(set(places)):
                found[place] = found.get(place, 0) + 1
    return found
