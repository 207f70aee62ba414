"""Fences that are found for asks."""

from thirdpoint.asks import look_at_asks
from thirdpoint.fences import hinder, sides


def is_clear(asks, one, other):
    """Whether the asks at both moments have unlike keys and no other ask in their box."""
    low, high = sides(asks, one, other)
    return low < high and not any([low <= key <= high for key in asks[one + 1:other]])


def clear_pairs(asks):
    """All pairs of moments whose asks have a box without another ask, those with the nearer keys first."""
    pairs = [(one, other) for other in range(len(asks)) for one in range(other) if is_clear(asks, one, other)]
    return sorted(pairs, key=lambda pair: (abs(asks[pair[0]] - asks[pair[1]]), pair))


def least_fence(asks, fences, one, other):
    """The fence of both moments with the least gap that may be put ahead of the fences, or None."""
    low, high = sides(asks, one, other)
    for gap in range(low, high):
        fence = (one, other, gap)
        if not any([hinder(asks, fence, behind) for behind in fences]):
            return fence
    return None


def fences_of(asks):
    """Fences of the asks that do not hinder one another: each pair's first that can be put ahead of those taken."""
    look_at_asks(asks)
    fences = []
    for one, other in clear_pairs(asks):
        fence = least_fence(asks, fences, one, other)
        if fence is not None:
            fences = [fence] + fences
    return fences
