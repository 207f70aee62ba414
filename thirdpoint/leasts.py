"""Least sets that serve asks, and the trees of cases that show that none is less."""

from thirdpoint.asks import look_at_asks
from thirdpoint.boxes import bare_with, in_box
from thirdpoint.cases import open_thirds
from thirdpoint.errors import TooMany
from thirdpoint.fences import floor_of
from thirdpoint.fencing import fences_of
from thirdpoint.growing import grown_rows, points_in

SHORT_ASKS = 6
SHORT_KEYS = 4
MOST_CASES = 400
EFFORT = 60000


def size_of(rows):
    """How many points the rows have, which are the keys of each moment."""
    return sum([len(row) for row in rows])


def with_point(rows, point):
    """New rows, the rising keys of each moment, to which the point is put."""
    key, moment = point
    return rows[:moment] + [sorted(rows[moment] + [key])] + rows[moment + 1:]


def chosen_pair(pairs, latest):
    """Of the pairs with the fewest open thirds the last one, or else the first one, in their order."""
    fewest = min(pairs.values())
    near = [pair for pair, many in pairs.items() if many == fewest]
    near = sorted(near, key=lambda pair: (pair[0][1], pair[0][0], pair[1][1], pair[1][0]))
    return near[-1] if latest else near[0]


def meet(pair, near):
    """Whether the boxes of two bare pairs have more in common than a point that is of both."""
    low = max(min(pair[0][0], pair[1][0]), min(near[0][0], near[1][0]))
    high = min(max(pair[0][0], pair[1][0]), max(near[0][0], near[1][0]))
    first = max(pair[0][1], near[0][1])
    last = min(pair[1][1], near[1][1])
    if low > high or first > last:
        return False
    return low < high or first < last or (low, first) not in pair or (low, first) not in near


def is_apart(pair, taken):
    """Whether the pair's box meets none of those taken."""
    for near in taken:
        if meet(pair, near):
            return False
    return True


def still_needed(pairs):
    """So many points any filled set has besides, or more: boxes that do not meet need one each."""
    taken = []
    for pair in sorted(pairs, key=lambda near: (pairs[near], abs(near[0][0] - near[1][0]))):
        if is_apart(pair, taken):
            taken.append(pair)
    return len(taken)


class Search:
    """A walk through the cases for asks and a number most, or, hunting, for a set alone.

    At each place rows are the rising keys of each moment; pairs is a dict from each bare pair to how many open thirds
    it has, for where these are few the tree of cases stays small; barred is a dict of the barred points. Hunting it
    turns back where a case must go on, so it comes farther, but what it tells with `none` is no case.
    """

    def __init__(self, asks, most, latest, hunting):
        self.columns = sorted(set(asks))
        self.most = most
        self.latest = latest
        self.hunting = hunting
        # A step takes the longer the more asks there are.
        self.left = EFFORT // len(asks) if hunting else MOST_CASES

    def is_over(self, rows, pairs):
        """Whether there are more points than most, or, hunting, surely will be."""
        many = size_of(rows)
        if self.hunting:
            many += still_needed(pairs)
        return many > self.most

    def pairs_with(self, rows, barred, point):
        """From each bare pair with the point to how many open thirds it has."""
        return {pair: len(open_thirds(self.columns, barred, pair[0], pair[1])) for pair in bare_with(rows, point)}

    def pairs_behind(self, rows, pairs, barred, third):
        """The pairs of the rows, to which the third was put."""
        left = {pair: many for pair, many in pairs.items() if not in_box(third, pair[0], pair[1])}
        left.update(self.pairs_with(rows, barred, third))
        return left

    def outlook(self, rows, pairs, barred, third):
        """How far from filled the rows are with the third, as a tuple: the less, the better."""
        behind = self.pairs_behind(with_point(rows, third), pairs, barred, third)
        return (still_needed(behind), len(behind))

    def thirds_to_try(self, rows, pairs, barred, pair):
        """The open thirds of the pair, sorted; or, hunting, those first that leave the least to do."""
        found = open_thirds(self.columns, barred, pair[0], pair[1])
        if not self.hunting:
            return found
        return sorted(found, key=lambda third: self.outlook(rows, pairs, barred, third))

    def walk(self, rows, pairs, barred):
        """A tuple of `served` and filled rows, or of `none` and a case; None where too many places are met."""
        if self.left == 0:
            return None
        self.left -= 1
        if self.is_over(rows, pairs):
            return ("none", ("over",))
        if len(pairs) == 0:
            return ("served", rows)
        one, other = chosen_pair(pairs, self.latest)
        barred = dict(barred)
        cases = []
        for third in self.thirds_to_try(rows, pairs, barred, (one, other)):
            whole = with_point(rows, third)
            told = self.walk(whole, self.pairs_behind(whole, pairs, barred, third), barred)
            if told is None or told[0] == "served":
                return told
            cases.append(told[1])
            barred[third] = True
            pairs = {pair: many - 1 if in_box(third, pair[0], pair[1]) else many for pair, many in pairs.items()}
        return ("none", ("pair", one, other, cases))


def searched(asks, most, latest, hunting):
    """What the search tells from the asks' own points on."""
    search = Search(asks, most, latest, hunting)
    rows = [[key] for key in asks]
    pairs = {}
    for moment, key in enumerate(asks):
        pairs.update(search.pairs_with(rows, {}, (key, moment)))
    return search.walk(rows, pairs, {})


def hunted(asks, most):
    """Filled rows of at most most points that a longer search finds, or None."""
    if floor_of(asks, fences_of(asks)) > most:
        return None
    told = searched(asks, most, True, True)
    return None if told is None or told[0] == "none" else told[1]


def served_by(asks, most):
    """A tuple of `served` and Points of at most most that serve, or of `none` and a case."""
    look_at_asks(asks)
    rows = grown_rows(asks)
    if size_of(rows) <= most:
        return ("served", points_in(rows))
    # Of some asks the one way meets too many cases and the other doesn't.
    for latest in (True, False):
        told = searched(asks, most, latest, False)
        if told is not None:
            word, found = told
            return ("served", points_in(found)) if word == "served" else told
    rows = hunted(asks, most)
    if rows is None:
        raise TooMany(MOST_CASES)
    return ("served", points_in(rows))


def least(asks):
    """A tuple of the least number of points that serve, such Points, and a case for one fewer."""
    look_at_asks(asks)
    if len(asks) > SHORT_ASKS or len(set(asks)) > SHORT_KEYS:
        raise TooMany(len(asks))
    points = points_in(grown_rows(asks))
    while True:
        # Asks as short as these meet at most 329 cases, so that this is never refused.
        word, found = served_by(asks, len(points) - 1)
        if word == "none":
            return (len(points), points, found)
        points = found
