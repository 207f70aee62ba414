"""Promises 12, 13, 3 (d) and 2, of thirdpoint.fences and thirdpoint.fencing."""

import copy
import itertools
import random
import unittest

from drawing import NO_KEYS, ORDERLY_ASKS, WRONG_ASKS, bare_one, drawn_asks, drawn_sets
from thirdpoint.errors import NoAsks
from thirdpoint.fences import are_fences, floor_of
from thirdpoint.fencing import fences_of
from thirdpoint.growing import Grower
from thirdpoint.points import Points

SOME_ASKS = ORDERLY_ASKS + list(drawn_asks(41, 150))


def all_fences(asks):
    """All fences for the asks, by the words of promise 12."""
    return [(one, other, gap) for one in range(len(asks)) for other in range(one + 1, len(asks))
            if asks[one] != asks[other]
            for gap in range(min(asks[one], asks[other]), max(asks[one], asks[other]))]


def kind(asks, fence):
    """Up or down."""
    return "up" if asks[fence[1]] > asks[fence[0]] else "down"


def let_by(asks, fences):
    """Whether fences do not hinder one another, by the words of promise 12."""
    for ahead, behind in itertools.combinations(fences, 2):
        if kind(asks, ahead) != kind(asks, behind):
            continue
        keys = [asks[behind[0]], asks[behind[1]]]
        beside = ahead[2] < min(keys) or ahead[2] >= max(keys)
        common = set(range(ahead[0], ahead[1] + 1)) & set(range(behind[0], behind[1] + 1))
        if not beside and common:
            return False
    return True


def reckoned_fences(asks):
    """The fences told, by the words of promise 13."""
    pairs = []
    for one, other in itertools.combinations(range(len(asks)), 2):
        low, high = sorted([asks[one], asks[other]])
        inside = [at for at in range(len(asks)) if one <= at <= other and low <= asks[at] <= high]
        if low != high and inside == [one, other]:
            pairs.append((high - low, one, other, low))
    taken = []
    for far, one, other, low in sorted(pairs):
        gaps = [gap for gap in range(low, low + far) if let_by(asks, [(one, other, gap)] + taken)]
        if gaps:
            taken.insert(0, (one, other, gaps[0]))
    return taken


class OneFence(unittest.TestCase):
    # Keys 5, 2, 5, 9, 0, 30 at moments 0 to 5.
    asks = [5, 2, 5, 9, 0, 30]

    def test_no_fences(self):
        self.assertIs(are_fences(self.asks, []), True)
        self.assertIs(are_fences([3], []), True)
        self.assertIs(are_fences(thing=[], asks=[3]), True)

    def test_the_gap_at_its_places(self):
        for one, other, low, high in ((0, 1, 2, 5), (1, 2, 2, 5), (0, 3, 5, 9), (3, 4, 0, 9), (4, 5, 0, 30),
                                      (0, 5, 5, 30)):
            for gap in range(-2, 33):
                self.assertIs(are_fences(self.asks, [(one, other, gap)]), low <= gap < high, (one, other, gap))

    def test_moments(self):
        for one in range(-2, 9):
            for other in range(-2, 9):
                wanted = 0 <= one < other < 6 and self.asks[one] != self.asks[other]
                gap = min(self.asks[one], self.asks[other]) if wanted else 3
                self.assertIs(are_fences(self.asks, [(one, other, gap)]), wanted, (one, other))
        self.assertIs(are_fences(list(range(31)), [(0, 30, 29)]), True)
        self.assertIs(are_fences(list(range(31)), [(0, 31, 29)]), False)
        self.assertIs(are_fences(list(range(30)), [(0, 30, 28)]), False)

    def test_moments_below_none(self):
        # Read from the end, -1 would be the last moment.
        self.assertIs(are_fences([3, 5, 7], [(-2, 2, 5)]), False)
        self.assertIs(are_fences([3, 5, 7], [(-3, -1, 5)]), False)

    def test_like_keys(self):
        for gap in range(-1, 32):
            self.assertIs(are_fences(self.asks, [(0, 2, gap)]), False)
            self.assertIs(are_fences([4] * 31, [(0, 30, gap)]), False)

    def test_other_forms(self):
        for thing in [(0, 1), (0, 1, 3, 3), (), (0,), [0, 1, 3], {0, 1, 3}, {0: 0, 1: 1, 2: 3}, "013", None, 3, True,
                      ((0, 1, 3),), ((0, 1), 3), b"\x00\x01\x03", Points([(0, 0), (1, 1), (3, 3)]), object()]:
            self.assertIs(are_fences(self.asks, [thing]), False, thing)
            self.assertIs(are_fences(self.asks, [(0, 1, 3), thing]), False, thing)
            self.assertIs(are_fences(self.asks, [thing, (4, 5, 3)]), False, thing)

    def test_other_things_than_numbers(self):
        for thing in NO_KEYS:
            for wrong in ((thing, 1, 3), (0, thing, 3), (0, 1, thing)):
                self.assertIs(are_fences(self.asks, [wrong]), False, wrong)

    def test_true_and_false_are_no_numbers(self):
        asks = [3, 0, 5, 1]
        self.assertIs(are_fences(asks, [(0, 1, 1)]), True)
        for wrong in ((False, 1, 1), (0, True, 1), (0, 1, True), (False, True, True), (0, 1, False)):
            self.assertIs(are_fences(asks, [wrong]), False)

    def test_of_anything(self):
        for thing in NO_KEYS + [((0, 1, 3),), {(0, 1, 3): 1}, {(0, 1, 3)}, "", Points(), iter([]), range(0), b""]:
            if thing != []:
                self.assertIs(are_fences(self.asks, thing), False, thing)

    def test_rings_and_depths(self):
        ring = []
        ring.append(ring)
        self.assertIs(are_fences(self.asks, ring), False)
        deep = (0, 1, 3)
        for time in range(5000):
            deep = (deep, 1, 3)
        self.assertIs(are_fences(self.asks, [deep]), False)
        self.assertIs(are_fences(self.asks, [(0, 1, 3)] * 5000), False)


class TwoFences(unittest.TestCase):
    def check(self, asks, ahead, behind, wanted):
        self.assertIs(are_fences(asks, [ahead, behind]), wanted, (asks, ahead, behind))
        mirrored = [30 - key for key in asks]
        turned = [(one, other, 29 - gap) for one, other, gap in (ahead, behind)]
        self.assertIs(are_fences(mirrored, turned), wanted, (mirrored, turned))

    def test_the_line_of_the_one_ahead(self):
        # Keys 2 to 8 at moments 0 to 3, within them 4 to 6 at moments 1 and 2; mirrored all are downs.
        asks = [2, 4, 6, 8]
        for gap in range(2, 8):
            within = 4 <= gap < 6
            self.check(asks, (0, 3, gap), (1, 2, 4), not within)
            self.check(asks, (0, 3, gap), (1, 2, 5), not within)
            # The line of the narrow one is within the wide one's keys, so it never stands ahead.
            self.check(asks, (1, 2, 4), (0, 3, gap), False)
            self.check(asks, (1, 2, 5), (0, 3, gap), False)

    def test_keys_that_overlap(self):
        asks = [2, 4, 6, 8]
        for first in range(2, 6):
            for second in range(4, 8):
                self.check(asks, (0, 2, first), (1, 3, second), first < 4)
                self.check(asks, (1, 3, second), (0, 2, first), second >= 6)

    def test_keys_that_touch(self):
        asks = [2, 4, 4, 8]
        self.check(asks, (0, 2, 3), (1, 3, 4), True)
        self.check(asks, (1, 3, 4), (0, 2, 3), True)

    def test_moments(self):
        asks = [2, 8, 3, 9]
        # Moments 0 to 1 and 2 to 3 have none in common.
        self.check(asks, (0, 1, 5), (2, 3, 5), True)
        self.check(asks, (2, 3, 5), (0, 1, 5), True)
        asks = [2, 5, 9]
        # Those that touch at one end have that one.
        self.check(asks, (0, 1, 3), (1, 2, 6), True)
        asks = [2, 5, 9, 3, 20]
        self.check(asks, (0, 2, 4), (2, 4, 10), True)
        self.check(asks, (0, 2, 4), (3, 4, 4), True)
        asks = [2, 7, 5, 12]
        self.check(asks, (0, 2, 3), (2, 3, 6), True)
        self.check([2, 7, 1, 9], (0, 1, 4), (2, 3, 4), True)
        self.check([2, 7, 1, 9], (0, 3, 4), (2, 3, 4), False)

    def test_touching_at_one_end_with_the_line_within(self):
        # Ups that end and begin at one moment share but one key, so that a line is never in both.
        for asks in itertools.product(range(4), repeat=3):
            for ahead in all_fences(asks):
                for behind in all_fences(asks):
                    wanted = let_by(asks, [ahead, behind])
                    self.assertIs(are_fences(list(asks), [ahead, behind]), wanted, (asks, ahead, behind))

    def test_an_up_and_a_down_never_hinder_one_another(self):
        asks = [2, 9, 1, 8]
        for up in [fence for fence in all_fences(asks) if kind(asks, fence) == "up"]:
            for down in [fence for fence in all_fences(asks) if kind(asks, fence) == "down"]:
                self.assertIs(are_fences(asks, [up, down]), True)
                self.assertIs(are_fences(asks, [down, up]), True)

    def test_the_same_fence_twice(self):
        self.check([2, 8], (0, 1, 5), (0, 1, 5), False)
        self.check([2, 8], (0, 1, 3), (0, 1, 5), False)
        self.assertIs(are_fences([2, 8, 3], [(0, 1, 5), (1, 2, 5), (0, 1, 5)]), False)
        self.assertIs(are_fences([2, 8, 3], [(1, 2, 5), (0, 1, 5)]), True)

    def test_every_two_count(self):
        asks = [0, 3, 6, 9]
        good = [(0, 1, 1), (1, 2, 4), (2, 3, 7)]
        self.assertIs(are_fences(asks, good), True)
        for place in range(4):
            for wrong in good:
                self.assertIs(are_fences(asks, good[:place] + [wrong] + good[place:]), False)

    def test_drawn_lists(self):
        source = random.Random(42)
        seen = {True: 0, False: 0}
        for number in range(1500):
            asks = [source.randrange(9) for at in range(source.randrange(2, 8))]
            fences = all_fences(asks)
            some = source.sample(fences, min(len(fences), source.randrange(6)))
            wanted = let_by(asks, some)
            seen[wanted] += 1
            self.assertIs(are_fences(asks, some), wanted, (asks, some))
        self.assertGreater(min(seen.values()), 200)


class Floors(unittest.TestCase):
    def test_a_few(self):
        self.assertEqual(floor_of([3], []), 1)
        self.assertEqual(floor_of([7] * 31, []), 31)
        self.assertEqual(floor_of([2, 8], [(0, 1, 5)]), 3)
        self.assertEqual(floor_of([8, 2], [(0, 1, 5)]), 3)
        self.assertEqual(floor_of(fences=[(1, 2, 5), (0, 1, 5)], asks=[2, 8, 3]), 4)
        self.assertEqual(floor_of([0, 3, 6, 4], [(0, 1, 1), (1, 2, 4), (2, 3, 4)]), 6)
        self.assertEqual(floor_of([6, 3, 0, 4], [(0, 1, 4), (1, 2, 1), (2, 3, 2)]), 6)

    def test_no_asks_goes_ahead(self):
        for asks, number in WRONG_ASKS:
            for ask in (lambda: are_fences(asks, []), lambda: are_fences(asks, None), lambda: floor_of(asks, []),
                        lambda: fences_of(asks), lambda: are_fences(thing=[(0, 1, 5)], asks=asks)):
                with self.assertRaises(NoAsks) as caught:
                    ask()
                self.assertEqual(caught.exception.number, number)

    def test_no_filled_set_is_below_any_floor(self):
        source = random.Random(43)
        cells = [(key, moment) for moment in range(4) for key in range(3)]
        filled = [set(row) for many in range(4, 10) for row in itertools.combinations(cells, many)
                  if bare_one(row) is None]
        for asks in itertools.product(range(3), repeat=4):
            held = {(key, moment) for moment, key in enumerate(asks)}
            fewest = min(len(row) for row in filled if held <= row)
            for time in range(40):
                fences = all_fences(asks)
                source.shuffle(fences)
                taken = []
                for fence in fences:
                    if are_fences(list(asks), taken + [fence]):
                        taken.append(fence)
                self.assertLessEqual(floor_of(list(asks), taken), fewest)
            self.assertLessEqual(floor_of(list(asks), fences_of(list(asks))), fewest)

    def test_no_drawn_set_is_below_the_floor(self):
        for asks, points in drawn_sets(44, 200):
            self.assertLessEqual(floor_of(asks, fences_of(asks)), len(points))


class Told(unittest.TestCase):
    def test_a_few(self):
        self.assertEqual(fences_of([3]), [])
        self.assertEqual(fences_of([3, 3]), [])
        self.assertEqual(fences_of([2, 8]), [(0, 1, 2)])
        self.assertEqual(fences_of(asks=[8, 2]), [(0, 1, 2)])
        self.assertEqual(fences_of([0, 3, 6]), [(1, 2, 3), (0, 1, 0)])
        self.assertEqual(fences_of([2, 4, 8]), [(1, 2, 4), (0, 1, 2)])
        # The nearer keys first, and each one put ahead of those taken.
        self.assertEqual(fences_of([0, 9, 4, 5]), [(0, 1, 4), (1, 2, 4), (1, 3, 5), (0, 2, 0), (2, 3, 4)])

    def test_the_least_gap_that_is_free(self):
        # The line of the wide one can't be within the keys 0 to 1 that were taken, so it is at the next gap.
        asks = [0, 5, 1]
        self.assertEqual(fences_of(asks), reckoned_fences(asks))
        self.assertEqual(fences_of(asks)[0], (0, 1, 1))

    def test_equal_keys(self):
        for many in (1, 2, 31):
            self.assertEqual(fences_of([7] * many), [])

    def test_31_rising_and_falling_keys(self):
        rising, falling = list(range(31)), list(range(30, -1, -1))
        self.assertEqual(fences_of(rising), [(at, at + 1, at) for at in range(29, -1, -1)])
        self.assertEqual(fences_of(falling), [(at, at + 1, 29 - at) for at in range(29, -1, -1)])
        self.assertEqual(floor_of(rising, fences_of(rising)), 61)
        self.assertEqual(floor_of(falling, fences_of(falling)), 61)

    def test_held_against_the_words(self):
        for asks in SOME_ASKS:
            self.assertEqual(fences_of(asks), reckoned_fences(asks), asks)

    def test_all_short_asks(self):
        for asks in itertools.product((0, 1, 4, 6), repeat=4):
            self.assertEqual(fences_of(list(asks)), reckoned_fences(asks), asks)

    def test_let_by_with_a_floor_that_no_grown_set_is_below(self):
        for asks in SOME_ASKS:
            fences = fences_of(asks)
            self.assertIs(are_fences(asks, fences), True)
            self.assertLessEqual(floor_of(asks, fences), len(Grower(asks).points()))
            ups = [fence for fence in fences if kind(asks, fence) == "up"]
            self.assertEqual(floor_of(asks, fences), len(asks) + max(len(ups), len(fences) - len(ups)))
            # As asks and half as many as boxes.
            self.assertLessEqual(2 * len(asks) + len(fences), 2 * floor_of(asks, fences))


class NothingKept(unittest.TestCase):
    def test_nothing_handed_in_is_changed(self):
        asks, fences = [0, 9, 4, 5], [(0, 1, 5), (1, 3, 5), (0, 2, 0), (2, 3, 4)]
        for thing in (fences, fences[::-1], [[0, [1]], 3], [(0, 1, [2])]):
            ahead = copy.deepcopy(thing)
            are_fences(asks, thing)
            self.assertEqual(thing, ahead)
        floor_of(asks, fences)
        fences_of(asks)
        self.assertEqual(asks, [0, 9, 4, 5])
        self.assertEqual(fences, [(0, 1, 5), (1, 3, 5), (0, 2, 0), (2, 3, 4)])

    def test_every_list_is_a_new_one(self):
        asks = [0, 9, 4, 5]
        first = fences_of(asks)
        wanted = list(first)
        first.clear()
        self.assertEqual(fences_of(asks), wanted)
        self.assertTrue(all(isinstance(fence, tuple) for fence in wanted))

    def test_asked_twice_alike(self):
        asks = [5, 2, 9, 0]
        self.assertEqual(fences_of(asks), fences_of(list(asks)))
        self.assertIs(are_fences(asks, fences_of(asks)), are_fences(asks, fences_of(asks)))


if __name__ == "__main__":
    unittest.main()
