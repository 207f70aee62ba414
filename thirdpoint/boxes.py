"""Boxes between two points, and pairs that have no third in theirs."""

from thirdpoint.errors import NoBox
from thirdpoint.points import LAST_KEY, is_point


def have_box(one, other):
    """Whether two things, which may be anything, are points with unlike keys and unlike moments."""
    return is_point(one) and is_point(other) and one[0] != other[0] and one[1] != other[1]


def in_box(point, one, other):
    """Whether the point is in the box of one and other."""
    key, moment = point
    return ((one[0] <= key <= other[0] or other[0] <= key <= one[0])
            and (one[1] <= moment <= other[1] or other[1] <= moment <= one[1]))


def thirds(points, one, other):
    """Those of the Points in the box of one and other, but these two."""
    if not have_box(one, other):
        raise NoBox(one, other)
    return [point for point in points.points() if in_box(point, one, other) and point not in (one, other)]


def later_bare(rows, one):
    """The points of later moments that are bare with one, sorted by moments, then keys.

    The rows are tuples (moment, rising keys), by rising moments, and hold one itself.
    """
    key, start = one
    low, high = -1, LAST_KEY + 1
    found = []
    for moment, keys in rows:
        if moment < start:
            continue
        # A point above one is a third in every box from its row on.
        if moment > start and key in keys:
            break
        # A key as far as one met before, or farther, has a third in that one.
        lesser = [near for near in keys if low < near < key][-1:]
        greater = [near for near in keys if key < near < high][:1]
        if moment > start:
            found.extend([(near, moment) for near in lesser + greater])
        low = max(lesser, default=low)
        high = min(greater, default=high)
    return found


def bare_with(rows, one):
    """All bare pairs with one, the earlier point first; the rows are the rising keys of each moment, and hold one."""
    key, start = one
    later = later_bare(list(enumerate(rows)), one)
    # Read backwards, what is earlier comes later.
    earlier = later_bare([(-moment, rows[moment]) for moment in range(start, -1, -1)], (key, -start))
    return [((near, -moment), one) for near, moment in earlier] + [(one, other) for other in later]


def bare_pairs(points):
    """All bare pairs of the Points, the earlier point first, sorted by the first one, then the second."""
    rows = [(moment, points.keys_at(moment)) for moment in points.all_moments()]
    return [(one, other) for one in points.points() for other in later_bare(rows, one)]


def is_filled(points):
    """Whether no pair of the Points is bare."""
    return bare_pairs(points) == []
