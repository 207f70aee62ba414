"""Points that may go, and what needs the others."""

from thirdpoint.asks import look_at_served
from thirdpoint.boxes import thirds
from thirdpoint.errors import NoPoint


def nearest(places, place):
    """Of the rising places the last one ahead of this one and the first one behind it, where there are such."""
    return [near for near in places if near < place][-1:] + [near for near in places if near > place][:1]


def needing_pair(points, point):
    """Two of the filled Points whose box has the point as the only third, the earlier one first, or None."""
    key, moment = point
    # Any other one has a third in its box with this point already, so only the nearest in its row and column need it.
    for beside in nearest(points.keys_at(moment), key):
        for along in nearest(points.moments_of(key), moment):
            pair = ((beside, moment), (key, along))
            if thirds(points, pair[0], pair[1]) == [point]:
                return pair if moment < along else pair[::-1]
    return None


def is_ask(asks, point):
    """Whether the point, of Points that serve the asks, is that of an ask."""
    key, moment = point
    return asks[moment] == key


def need_of(asks, points, point):
    """None where the point may go, else a tuple that tells what needs it."""
    look_at_served(asks, points)
    if not points.has(point):
        raise NoPoint(point)
    if is_ask(asks, point):
        return ("ask",)
    pair = needing_pair(points, point)
    return None if pair is None else ("needed", pair[0], pair[1])


def first_free(asks, points, needed):
    """The first point that may go, or None; needed, a dict from points to pairs that need them, is kept up."""
    for point in points.points():
        if is_ask(asks, point) or point in needed:
            continue
        pair = needing_pair(points, point)
        if pair is None:
            return point
        needed[point] = pair
    return None


def thinned(asks, points):
    """The Points that are left where, as long as one may go, the first such goes."""
    look_at_served(asks, points)
    needed = {}
    while True:
        free = first_free(asks, points, needed)
        if free is None:
            return points
        points = points.less(free)
        # A pair needs its third as long as both of the pair are there.
        needed = {point: pair for point, pair in needed.items() if free not in pair}
