"""Keys, moments, and sets of points (key, moment)."""

from thirdpoint.errors import NoPoint, NoPoints, TooMany

LAST_KEY = 30
MOST_POINTS = 200


def is_key(thing):
    """Whether the thing is a key; a moment is one likewise."""
    return isinstance(thing, int) and not isinstance(thing, bool) and 0 <= thing <= LAST_KEY


def is_point(thing):
    """Whether the thing is a tuple (key, moment)."""
    return isinstance(thing, tuple) and len(thing) == 2 and is_key(thing[0]) and is_key(thing[1])


def look_at_points(thing):
    """None, or NoPoints of what is no list or tuple of at most 200 points."""
    if not isinstance(thing, (list, tuple)) or len(thing) > MOST_POINTS:
        raise NoPoints(None)
    for number, point in enumerate(thing):
        if not is_point(point):
            raise NoPoints(number)


def in_order(points):
    """A new list of the points, each once, sorted by moments, then keys."""
    return [(key, moment) for moment, key in sorted({(moment, key) for key, moment in points})]


class Points:
    """A set of at most 200 points, which never changes."""

    def __init__(self, points=None):
        if points is None:
            points = []
        look_at_points(points)
        self.held = in_order(points)

    def points(self):
        """The points, sorted by moments, then keys."""
        return list(self.held)

    def has(self, point):
        """Whether the point, which may be anything, is among them."""
        # Looked at first, for (True, 0) equals (1, 0) but is no point.
        return is_point(point) and point in self.held

    def keys_at(self, moment):
        """The keys that stand at the moment, rising; none of what is no moment."""
        if not is_key(moment):
            return []
        return [key for key, at in self.held if at == moment]

    def moments_of(self, key):
        """The moments at which the key stands, rising; none of what is no key."""
        if not is_key(key):
            return []
        return [moment for other, moment in self.held if other == key]

    def all_keys(self):
        """All keys, rising, each once."""
        return sorted({key for key, moment in self.held})

    def all_moments(self):
        """All moments, rising, each once."""
        return sorted({moment for key, moment in self.held})

    def more(self, points):
        """New Points with those of the list or tuple put to these."""
        look_at_points(points)
        together = in_order(self.held + list(points))
        if len(together) > MOST_POINTS:
            raise TooMany(len(together))
        return Points(together)

    def less(self, point):
        """New Points without the point, which must be among these."""
        if not self.has(point):
            raise NoPoint(point)
        return Points([other for other in self.held if other != point])

    def __eq__(self, other):
        return isinstance(other, Points) and self.held == other.held

    def __len__(self):
        return len(self.held)

    def __repr__(self):
        return f"Points({self.held})"
