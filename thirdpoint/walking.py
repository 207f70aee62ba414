"""From Points that serve asks to the run that touches just these."""

from thirdpoint.asks import look_at_served
from thirdpoint.trees import tree_by

NEVER = 31


def first_tree(points):
    """The tree of all keys of the Points, each ranked by its first moment."""
    return tree_by({key: min(points.moments_of(key)) for key in points.all_keys()})


def coming_moment(points, key, moment):
    """The next moment of the key behind this one, or one behind all where there is none."""
    return min([later for later in points.moments_of(key) if later > moment], default=NEVER)


def top_at(points, moment):
    """The tree of the keys of the moment, each ranked by its next moment."""
    return tree_by({key: coming_moment(points, key, moment) for key in points.keys_at(moment)})


def run_of(asks, points):
    """The run that serves the asks and touches just the Points, which must serve them."""
    look_at_served(asks, points)
    return (first_tree(points), [top_at(points, moment) for moment in range(len(asks))])
