"""Asks and Points that are laid behind one another."""

from thirdpoint.asks import MOST_ASKS, look_at_asks, look_at_served
from thirdpoint.errors import NoAsks, TooMany
from thirdpoint.points import MOST_POINTS, Points


def laid_asks(asks, others):
    """The asks, and the others behind them."""
    look_at_asks(asks)
    look_at_asks(others)
    if len(asks) + len(others) > MOST_ASKS:
        raise NoAsks(None)
    return asks + others


def laid_parts(asks, points, others, more):
    """The points of both Points, the others moved; and those that are in the seam only, sorted."""
    laid_asks(asks, others)
    look_at_served(asks, points)
    look_at_served(others, more)
    start = len(asks)
    both = points.points() + [(key, start + moment) for key, moment in more.points()]
    keys = sorted(set(points.all_keys() + more.all_keys()))
    alone = [(key, start) for key in keys if (key, start) not in both]
    many = len(both) + len(alone)
    if many > MOST_POINTS:
        raise TooMany(many)
    return (both, alone)


def laid(asks, points, others, more):
    """The Points, which serve the asks, and more, which serve the others, laid behind one another with the seam."""
    both, alone = laid_parts(asks, points, others, more)
    return Points(both + alone)


def seam(asks, points, others, more):
    """The points that are in the seam only, sorted."""
    return laid_parts(asks, points, others, more)[1]
