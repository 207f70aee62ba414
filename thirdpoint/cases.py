"""Cases: trees that show that no filled set which holds the asks has so few points."""

from thirdpoint.asks import points_of
from thirdpoint.boxes import have_box, in_box
from thirdpoint.points import MOST_POINTS


def open_thirds(keys, barred, one, other):
    """The points of the box of one and the later other with these keys, but these two, that aren't barred, sorted."""
    near = [key for key in keys if one[0] <= key <= other[0] or other[0] <= key <= one[0]]
    cells = [(key, moment) for moment in range(one[1], other[1] + 1) for key in near]
    return [cell for cell in cells if cell not in barred and cell not in (one, other)]


def are_bare(points, one, other):
    """Whether two things, which may be anything, are of the points and bare, the one with the lesser moment first."""
    if not have_box(one, other) or one[1] > other[1] or one not in points or other not in points:
        return False
    return len([point for point in points if in_box(point, one, other)]) == 2


def has_word(thing, word, many):
    """Whether the thing, which may be anything, is a tuple of so many things, the word ahead."""
    return isinstance(thing, tuple) and len(thing) == many and isinstance(thing[0], str) and thing[0] == word


def is_case(keys, most, points, barred, thing):
    """Whether the thing, which may be anything, is a case; keys are the asked ones, barred is a dict of points."""
    if has_word(thing, "over", 1):
        return len(points) > most
    if not has_word(thing, "pair", 4) or not isinstance(thing[3], list):
        return False
    word, one, other, cases = thing
    if not are_bare(points, one, other):
        return False
    found = open_thirds(keys, barred, one, other)
    if len(found) != len(cases):
        return False
    barred = dict(barred)
    for third, case in zip(found, cases):
        # Points are at most 200, so whatever is nested, no case goes deeper than there is room for a third.
        if len(points) == MOST_POINTS or not is_case(keys, most, points + [third], barred, case):
            return False
        barred[third] = True
    return True


def lets_case(asks, most, thing):
    """Whether the thing, which may be anything, is a case for the asks' points, none barred."""
    points = points_of(asks).points()
    return is_case(sorted(set(asks)), most, points, {}, thing)
