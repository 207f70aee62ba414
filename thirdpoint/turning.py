"""Asks and Points that are mirrored, or read backwards."""

from thirdpoint.asks import look_at_asks
from thirdpoint.errors import NoTurn
from thirdpoint.points import LAST_KEY, Points, is_key


def look_at_turn(last, places):
    """None, or NoTurn where last is no number to turn by, or one of the places would come below 0."""
    if not is_key(last) or max(places, default=0) > last:
        raise NoTurn(last)


def mirrored_asks(asks, last=LAST_KEY):
    """The asks with each key turned by last."""
    look_at_asks(asks)
    look_at_turn(last, asks)
    return [last - key for key in asks]


def backward_asks(asks):
    """The asks, the last one first."""
    look_at_asks(asks)
    return asks[::-1]


def mirrored(points, last=LAST_KEY):
    """The Points with their keys turned by last."""
    look_at_turn(last, points.all_keys())
    return Points([(last - key, moment) for key, moment in points.points()])


def backward(points, last=LAST_KEY):
    """The Points with their moments turned by last."""
    look_at_turn(last, points.all_moments())
    return Points([(key, last - moment) for key, moment in points.points()])
