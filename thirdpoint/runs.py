"""Runs: a tree, and the tops by which it is turned, one at each moment."""

from thirdpoint.asks import look_at_asks
from thirdpoint.errors import NoRun, TooMany
from thirdpoint.points import MOST_POINTS, Points
from thirdpoint.tops import is_top, turned
from thirdpoint.trees import is_tree, keys_of


def has_form(thing, many):
    """Whether the thing, which may be anything, is a tuple of a tree and a list of so many things."""
    return (isinstance(thing, tuple) and len(thing) == 2 and is_tree(thing[0])
            and isinstance(thing[1], list) and len(thing[1]) == many)


def look_at_run(asks, thing):
    """None, or NoRun of what is no run that serves the asks."""
    look_at_asks(asks)
    if not has_form(thing, len(asks)):
        raise NoRun(None)
    tree, tops = thing
    for moment, top in enumerate(tops):
        if not is_top(tree, top) or asks[moment] not in keys_of(top):
            raise NoRun(moment)
        tree = turned(tree, top)


def trees_of(run):
    """The trees of the run: one ahead of each moment, and the last one behind all."""
    tree, tops = run
    trees = [tree]
    for top in tops:
        tree = turned(tree, top)
        trees.append(tree)
    return trees


def touched(run):
    """The Points that the run touches: the keys of each moment's top."""
    points = [(key, moment) for moment, top in enumerate(run[1]) for key in keys_of(top)]
    if len(points) > MOST_POINTS:
        raise TooMany(len(points))
    return Points(points)
