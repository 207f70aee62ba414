"""Fences: boxes of two asks, each with a line in it, that do not hinder one another."""

from thirdpoint.asks import look_at_asks
from thirdpoint.points import is_key


def sides(asks, one, other):
    """The keys asked at both moments, the lesser one first."""
    return sorted([asks[one], asks[other]])


def is_fence(asks, thing):
    """Whether the thing, which may be anything, is a fence for the asks."""
    if not isinstance(thing, tuple) or len(thing) != 3 or not all([is_key(part) for part in thing]):
        return False
    one, other, gap = thing
    if not one < other < len(asks):
        return False
    # Like keys leave no place for a gap.
    low, high = sides(asks, one, other)
    return low <= gap < high


def is_up(asks, fence):
    """Whether the later ask of the fence has the greater key."""
    return asks[fence[0]] < asks[fence[1]]


def hinder(asks, ahead, behind):
    """Whether two fences hinder one another, where they stand in this order."""
    if is_up(asks, ahead) != is_up(asks, behind):
        return False
    if ahead[1] < behind[0] or behind[1] < ahead[0]:
        return False
    low, high = sides(asks, behind[0], behind[1])
    return low <= ahead[2] < high


def are_fences(asks, thing):
    """Whether the thing, which may be anything, is a list of fences for the asks that do not hinder one another."""
    look_at_asks(asks)
    if not isinstance(thing, list) or not all([is_fence(asks, fence) for fence in thing]):
        return False
    for number, behind in enumerate(thing):
        if any([hinder(asks, ahead, behind) for ahead in thing[:number]]):
            return False
    return True


def floor_of(asks, fences):
    """So many points any filled set that holds the asks has, or more: asks, and ups or downs."""
    look_at_asks(asks)
    ups = len([fence for fence in fences if is_up(asks, fence)])
    return len(asks) + max(ups, len(fences) - ups)
