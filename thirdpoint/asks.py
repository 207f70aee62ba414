"""Asks, a key for each moment, and the Points that serve them."""

from thirdpoint.boxes import is_filled
from thirdpoint.errors import NoAsks, NotServed
from thirdpoint.points import Points, is_key

MOST_ASKS = 31


def look_at_asks(thing):
    """None, or NoAsks of what is no list of 1 to 31 keys."""
    if not isinstance(thing, list) or not 1 <= len(thing) <= MOST_ASKS:
        raise NoAsks(None)
    for number, key in enumerate(thing):
        if not is_key(key):
            raise NoAsks(number)


def points_of(asks):
    """The Points of the asks themselves."""
    look_at_asks(asks)
    return Points([(key, moment) for moment, key in enumerate(asks)])


def serves(asks, points):
    """Whether the Points are filled, have all points of the asks, and no moment behind them."""
    asked = points_of(asks).points()
    if not all([points.has(point) for point in asked]):
        return False
    return max(points.all_moments()) < len(asks) and is_filled(points)


def look_at_served(asks, points):
    """None, or NotServed of Points that do not serve the asks."""
    if not serves(asks, points):
        raise NotServed("the Points do not serve the asks")
