"""Promises 18, the second part of 3 (g) and 2, of thirdpoint.laying."""

import random
import unittest

from drawing import WRONG_ASKS, drawn_asks, drawn_runs, drawn_sets
from thirdpoint.asks import serves
from thirdpoint.errors import NoAsks, NotServed, PointError, TooMany
from thirdpoint.growing import Grower
from thirdpoint.laying import laid, laid_asks, seam
from thirdpoint.leasts import least
from thirdpoint.points import Points
from thirdpoint.runs import touched

SERVED = ([(asks, Points(points)) for asks, points in drawn_sets(91, 80)]
          + [(asks, touched(run)) for asks, run in drawn_runs(92, 60)]
          + [(asks, Grower(asks).points()) for asks in drawn_asks(93, 60)])
ONE, FIRST = [3, 5], Points([(3, 0), (3, 1), (5, 1)])
TWO, SECOND = [9, 3], Points([(9, 0), (3, 0), (3, 1)])


def drawn_pairs(seed, many):
    """Tuples (asks, points, others, more), so many, of at most 31 asks and 200 points."""
    source = random.Random(seed)
    found = 0
    while found < many:
        (asks, points), (others, more) = source.choice(SERVED), source.choice(SERVED)
        if len(asks) + len(others) <= 31 and len(points) + len(more) + 31 <= 200:
            found += 1
            yield asks, points, others, more


def reckoned(asks, points, others, more):
    """The seam and the rest, two sets of points, by the words of promise 18."""
    rest = set(points.points()) | {(key, moment + len(asks)) for key, moment in more.points()}
    keys = {key for key, moment in points.points()} | {key for key, moment in more.points()}
    return {(key, len(asks)) for key in keys}, rest


def grid(wide, high):
    """All points of the keys below wide and the moments below high."""
    return Points([(key, moment) for key in range(wide) for moment in range(high)])


class Asks(unittest.TestCase):
    def test_one_behind_the_other(self):
        self.assertEqual(laid_asks([3], [5]), [3, 5])
        self.assertEqual(laid_asks([5, 3], [0, 0, 30]), [5, 3, 0, 0, 30])
        self.assertEqual(laid_asks(others=[1, 2], asks=[7]), [7, 1, 2])

    def test_31_are_let_by(self):
        for many in range(1, 31):
            self.assertEqual(laid_asks([1] * many, [2] * (31 - many)), [1] * many + [2] * (31 - many))

    def test_more_than_31(self):
        for one, other in ((1, 31), (31, 1), (16, 16), (31, 31), (30, 2), (2, 30)):
            asks, others = [1] * one, [2] * other
            for ask in (lambda: laid_asks(asks, others), lambda: laid_asks(others=others, asks=asks)):
                with self.assertRaises(NoAsks) as caught:
                    ask()
                self.assertIsNone(caught.exception.number)

    def test_a_new_list(self):
        asks, others = [1], [2]
        for time in range(2):
            whole = laid_asks(asks, others)
            self.assertEqual(whole, [1, 2])
            whole.clear()
        self.assertEqual((asks, others), ([1], [2]))


class Laid(unittest.TestCase):
    def test_a_few(self):
        # Both, the others two moments later; at moment 2 the keys 3, 5 and 9.
        wanted = [(3, 0), (3, 1), (5, 1), (3, 2), (5, 2), (9, 2), (3, 3)]
        self.assertEqual(laid(ONE, FIRST, TWO, SECOND), Points(wanted))
        self.assertEqual(seam(ONE, FIRST, TWO, SECOND), [(5, 2)])
        self.assertEqual(laid(more=SECOND, others=TWO, points=FIRST, asks=ONE), Points(wanted))
        self.assertEqual(seam(more=SECOND, others=TWO, points=FIRST, asks=ONE), [(5, 2)])
        self.assertEqual(laid(TWO, SECOND, ONE, FIRST),
                         Points([(3, 0), (9, 0), (3, 1), (3, 2), (5, 2), (9, 2), (3, 3), (5, 3)]))
        self.assertEqual(seam(TWO, SECOND, ONE, FIRST), [(5, 2), (9, 2)])
        self.assertEqual(seam([3], Points([(3, 0)]), [3], Points([(3, 0)])), [])
        self.assertEqual(laid([3], Points([(3, 0)]), [5], Points([(5, 0)])), Points([(3, 0), (3, 1), (5, 1)]))

    def test_keys_that_nobody_asked_are_in_the_seam(self):
        points = Points([(3, 0), (7, 0), (0, 1), (3, 1), (7, 1)])
        self.assertEqual(seam([3, 3], points, [4], Points([(4, 0), (30, 0)])), [(0, 2), (3, 2), (7, 2)])
        self.assertEqual(seam([4], Points([(4, 0), (30, 0)]), [3, 3], points), [(0, 1), (4, 1), (30, 1)])

    def test_drawn_ones(self):
        for asks, points, others, more in drawn_pairs(94, 150):
            row, rest = reckoned(asks, points, others, more)
            whole = laid(asks, points, others, more)
            self.assertEqual(whole, Points(list(row | rest)))
            alone = seam(asks, points, others, more)
            self.assertEqual(alone, sorted(row - rest, key=lambda point: (point[1], point[0])))
            self.assertEqual(len(whole), len(points) + len(more) + len(alone))
            self.assertIs(serves(laid_asks(asks, others), whole), True)

    def test_thrice_either_way_about(self):
        source = random.Random(95)
        for asks, points, others, more in drawn_pairs(96, 60):
            third = source.choice([[5], [0, 30], [4, 9, 4]])
            grown = Grower(third).points()
            if len(asks + others + third) > 31:
                continue
            ahead = laid(laid_asks(asks, others), laid(asks, points, others, more), third, grown)
            behind = laid(asks, points, laid_asks(others, third), laid(others, more, third, grown))
            self.assertIs(serves(asks + others + third, ahead), True)
            self.assertIs(serves(asks + others + third, behind), True)

    def test_least_sets_need_no_more(self):
        for asks in ([0], [1, 0], [0, 2, 1], [2, 0, 1, 3]):
            for others in ([1], [3, 0], [0, 0]):
                points, more = least(asks)[1], least(others)[1]
                bound = len(points) + len(more) + len(seam(asks, points, others, more))
                self.assertLessEqual(least(laid_asks(asks, others))[0], bound)


class Refused(unittest.TestCase):
    # What serves neither ONE nor TWO.
    bad = [Points(), Points([(0, 0), (1, 1)]), FIRST.less((3, 1)), SECOND.less((3, 0)), FIRST.more([(3, 2)])]

    def refused(self, kind, asks, points, others, more):
        for ask in (lambda: laid(asks, points, others, more), lambda: seam(asks, points, others, more),
                    lambda: laid(more=more, others=others, points=points, asks=asks),
                    lambda: seam(more=more, others=others, points=points, asks=asks)):
            with self.assertRaises(kind) as caught:
                ask()
        return caught.exception

    def test_not_served(self):
        for points in self.bad:
            for error in (self.refused(NotServed, ONE, points, TWO, SECOND),
                          self.refused(NotServed, ONE, FIRST, TWO, points),
                          self.refused(NotServed, ONE, points, TWO, points)):
                self.assertIsInstance(error, PointError)
        self.refused(NotServed, ONE, SECOND, TWO, FIRST)
        self.refused(NotServed, ONE, FIRST, TWO, FIRST)
        self.refused(NotServed, ONE, SECOND, TWO, SECOND)

    def test_no_asks_goes_ahead(self):
        for asks, number in WRONG_ASKS:
            for points in [FIRST, SECOND] + self.bad:
                self.assertEqual(self.refused(NoAsks, asks, points, TWO, SECOND).number, number)
                self.assertEqual(self.refused(NoAsks, ONE, points, asks, SECOND).number, number)
            for ask in (lambda: laid_asks(asks, TWO), lambda: laid_asks(ONE, asks), lambda: laid_asks(asks, asks)):
                with self.assertRaises(NoAsks) as caught:
                    ask()
                self.assertEqual(caught.exception.number, number)

    def test_of_two_lists_the_first_one(self):
        for one, other, number in (([0, 31], [None], 1), ([None], [0, 31], 0), ([0] * 32, [None], None),
                                   ([0, 0, True], [], 2), ([], [0, True], None), ([1] * 30 + [31], [1] * 31, 30)):
            self.assertEqual(self.refused(NoAsks, one, FIRST, other, SECOND).number, number)
            with self.assertRaises(NoAsks) as caught:
                laid_asks(one, other)
            self.assertEqual(caught.exception.number, number)

    def test_wrong_asks_go_ahead_of_too_many_asks(self):
        self.assertEqual(self.refused(NoAsks, [1] * 31, FIRST, [1, None], SECOND).number, 1)

    def test_more_than_31_asks_go_ahead_of_not_served(self):
        for one, other in ((1, 31), (31, 1), (16, 16)):
            for points in self.bad:
                self.assertIsNone(self.refused(NoAsks, [3] * one, points, [3] * other, points).number)
        # 31 are let by.
        column = [Points([(3, moment) for moment in range(many)]) for many in (16, 15)]
        self.assertEqual(len(laid([3] * 16, column[0], [3] * 15, column[1])), 31)

    def test_more_than_200_points(self):
        first = grid(19, 10)
        self.assertEqual(len(laid([3] * 9, grid(19, 9), [3], grid(19, 1))), 190)
        # Nine rows of twenty keys, and the seam: whatever of it the others have, there are 200.
        for keys in ([0], [0, 3], [0, 7, 19], list(range(20))):
            more = Points([(key, 0) for key in keys])
            self.assertEqual(len(laid([3] * 9, grid(20, 9), [0], more)), 200)
            self.assertEqual(len(seam([3] * 9, grid(20, 9), [0], more)), 20 - len(keys))
        self.assertEqual(self.refused(TooMany, [3] * 10, first, [3], grid(4, 1)).many, 209)
        self.assertEqual(self.refused(TooMany, [3] * 10, first, [3] * 10, first).many, 380)
        self.assertEqual(self.refused(TooMany, [0] * 9, grid(20, 9), [0], Points([(0, 0), (20, 0)])).many, 201)
        self.assertEqual(self.refused(TooMany, [3] * 10, grid(20, 10), [3] * 10, grid(20, 10)).many, 400)


class NothingKept(unittest.TestCase):
    def test_nothing_handed_in_is_changed_or_kept(self):
        for time in range(2):
            found = seam(TWO, SECOND, ONE, FIRST)
            self.assertEqual(found, [(5, 2), (9, 2)])
            found.clear()
            self.assertIsInstance(laid(TWO, SECOND, ONE, FIRST), Points)
        self.assertEqual((ONE, TWO), ([3, 5], [9, 3]))
        self.assertEqual(FIRST, Points([(3, 0), (3, 1), (5, 1)]))
        self.assertEqual(SECOND, Points([(9, 0), (3, 0), (3, 1)]))


if __name__ == "__main__":
    unittest.main()
