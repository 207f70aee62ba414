"""Promises 16, 3 (f) and 2, of thirdpoint.sparing."""

import random
import unittest

from drawing import NO_KEYS, ORDERLY_ASKS, WRONG_ASKS, drawn_asks, drawn_runs, drawn_sets, in_the_box, ring
from thirdpoint.asks import serves
from thirdpoint.boxes import is_filled
from thirdpoint.errors import NoAsks, NoPoint, NotServed, PointError
from thirdpoint.growing import Grower
from thirdpoint.points import Points
from thirdpoint.runs import touched
from thirdpoint.sparing import need_of, thinned

# Asks with lists of points that serve them, some of which may go.
SERVED = (list(drawn_sets(71, 120)) + [(asks, touched(run).points()) for asks, run in drawn_runs(72, 60)]
          + [(asks, Grower(asks).points().points()) for asks in drawn_asks(73, 20)])
SMALL = [(asks, points) for asks, points in SERVED if len(points) <= 25]
NO_POINTS = NO_KEYS + [(3, 1, 0), (3,), [3, 1], "31", ((3, 1),), (3, None), (None, 1), (True, 0), (3, True), (3, False),
                       (-1, 0), (0, -1), (31, 0), (0, 31), Points([(3, 0)]), ring(), (ring(), 0)]


def others(points, point):
    """The points without this one."""
    return [other for other in points if other != point]


def may_go(asks, points, point):
    """Whether the point is no ask and the others are filled."""
    return asks[point[1]] != point[0] and is_filled(Points(others(points, point)))


def gone(asks, points):
    """The points that go, one by one, by the words of promise 16."""
    left = sorted(points, key=lambda point: (point[1], point[0]))
    went = []
    while True:
        free = next((point for point in left if may_go(asks, left, point)), None)
        if free is None:
            return went
        left.remove(free)
        went.append(free)


def grid(wide, high):
    """All points of the keys below wide and the moments below high."""
    return Points([(key, moment) for key in range(wide) for moment in range(high)])


class NeedOf(unittest.TestCase):
    def test_a_few(self):
        points = Points([(2, 0), (8, 0), (8, 1)])
        self.assertEqual(need_of([2, 8], points, (2, 0)), ("ask",))
        self.assertEqual(need_of([2, 8], points, (8, 1)), ("ask",))
        self.assertEqual(need_of([2, 8], points, (8, 0)), ("needed", (2, 0), (8, 1)))
        points = points.more([(2, 1)])
        self.assertIsNone(need_of([2, 8], points, (8, 0)))
        self.assertIsNone(need_of(point=(2, 1), points=points, asks=[2, 8]))

    def test_a_key_that_nobody_asked(self):
        points = Points([(3, 0), (5, 0), (5, 1), (3, 1)])
        self.assertIsNone(need_of([3, 3], points, (5, 0)))
        self.assertIsNone(need_of([3, 3], points, (5, 1)))
        self.assertIsNone(need_of([3], Points([(3, 0), (30, 0)]), (30, 0)))

    def test_each_corner(self):
        # The point is at each of the four corners of the box that needs it.
        for asks, point in (([0, 4], (4, 0)), ([0, 4], (0, 1)), ([4, 0], (0, 0)), ([4, 0], (4, 1))):
            one, other = (asks[0], 0), (asks[1], 1)
            told = need_of(asks, Points([one, other, point]), point)
            self.assertIn(told, (("needed", one, other), ("needed", other, one)))

    def test_of_every_point(self):
        seen = {None: 0, "ask": 0, "needed": 0}
        for asks, points in SMALL:
            for point in points:
                told = need_of(asks, Points(points), point)
                self.assertEqual(told is None, may_go(asks, points, point))
                if told is None:
                    self.assertIs(serves(asks, Points(others(points, point))), True)
                    seen[None] += 1
                    continue
                self.assertIsInstance(told, tuple)
                seen[told[0]] += 1
                if told[0] == "ask":
                    self.assertEqual(told, ("ask",))
                    self.assertEqual(asks[point[1]], point[0])
                else:
                    word, one, other = told
                    self.assertNotEqual(asks[point[1]], point[0])
                    self.assertTrue(one in points and other in points)
                    self.assertTrue(one[0] != other[0] and one[1] != other[1])
                    inside = [near for near in points if in_the_box(near, one, other)]
                    self.assertCountEqual(inside, [one, other, point])
        self.assertGreater(min(seen.values()), 100)


class Thinned(unittest.TestCase):
    def test_a_few(self):
        self.assertEqual(thinned([5], Points([(5, 0)])), Points([(5, 0)]))
        self.assertEqual(thinned([5], Points([(5, 0), (0, 0), (30, 0)])), Points([(5, 0)]))
        # Of both that may go the first one goes, and then the other is needed.
        self.assertEqual(thinned([2, 8], grid(9, 2)), Points([(2, 0), (2, 1), (8, 1)]))
        self.assertEqual(thinned(points=grid(9, 2), asks=[8, 2]), Points([(8, 0), (2, 1), (8, 1)]))

    def test_held_against_the_words(self):
        source = random.Random(74)
        drawn = list(SMALL)
        for time in range(25):
            wide, high = source.choice([(3, 4), (5, 3), (6, 4)])
            drawn.append(([source.randrange(wide) for moment in range(high)], grid(wide, high).points()))
        many = late = 0
        for asks, points in drawn:
            went = gone(asks, points)
            self.assertEqual(thinned(asks, Points(points)), Points([point for point in points if point not in went]))
            many += len(went)
            # One that was needed at first goes behind later ones.
            late += went != sorted(went, key=lambda point: (point[1], point[0]))
        self.assertGreater(many, 100)
        self.assertGreater(late, 5)

    def test_what_is_left_serves_and_none_may_go(self):
        for asks, points in SERVED + [([key % 6 for key in range(31)], grid(6, 31).points()),
                                      ([3] * 10, grid(20, 10).points())]:
            left = thinned(asks, Points(points))
            self.assertIs(serves(asks, left), True)
            self.assertEqual(thinned(asks, left), left)
            for point in left.points():
                self.assertIn(point, points)
                self.assertIsNotNone(need_of(asks, left, point))

    def test_31_asks(self):
        for asks in ORDERLY_ASKS:
            grown = Grower(asks).points()
            left = thinned(asks, grown)
            self.assertLessEqual(len(left), len(grown))
            self.assertIs(serves(asks, left), True)


class Refused(unittest.TestCase):
    # Each lacks one thing alone: an ask, a third, a moment too many; and no Points.
    not_served = [([3, 4], Points([(3, 0), (3, 1)])), ([0, 1], Points([(0, 0), (1, 1)])),
                  ([3], Points([(3, 0), (3, 1)])), ([3], Points()), ([3, 3], Points([(3, 0)]))]

    def test_not_served(self):
        for asks, points in self.not_served:
            for point in points.points() + NO_POINTS:
                for ask in (lambda: need_of(asks, points, point), lambda: thinned(asks, points)):
                    with self.assertRaises(NotServed) as caught:
                        ask()
                    self.assertIsInstance(caught.exception, PointError)

    def test_no_point(self):
        asks, points = [3, 3], Points([(3, 0), (5, 0), (3, 1)])
        for point in NO_POINTS + [(5, 1), (4, 0), (3, 2), (0, 0), (30, 30)]:
            for ask in (lambda: need_of(asks, points, point), lambda: need_of(point=point, points=points, asks=asks)):
                with self.assertRaises(NoPoint) as caught:
                    ask()
                self.assertIs(caught.exception.point, point)
                self.assertNotIsInstance(caught.exception, PointError)

    def test_true_is_no_key(self):
        points = Points([(0, 0), (1, 0), (1, 1)])
        for point in ((True, 0), (True, 1), (1, True), (False, 0), (0, False)):
            with self.assertRaises(NoPoint) as caught:
                need_of([0, 1], points, point)
            self.assertIs(caught.exception.point, point)

    def test_no_asks_goes_ahead(self):
        for asks, number in WRONG_ASKS:
            for points in (Points(), Points([(3, 0)]), Points([(0, 0), (1, 1)])):
                for ask in (lambda: need_of(asks, points, (3, 0)), lambda: need_of(asks, points, None),
                            lambda: thinned(asks, points), lambda: thinned(points=points, asks=asks)):
                    with self.assertRaises(NoAsks) as caught:
                        ask()
                    self.assertEqual(caught.exception.number, number)


class NothingKept(unittest.TestCase):
    def test_nothing_handed_in_is_changed(self):
        asks, points = [2, 8], grid(9, 2)
        ahead = points.points()
        for time in range(2):
            self.assertEqual(thinned(asks, points), Points([(2, 0), (2, 1), (8, 1)]))
            self.assertIsNone(need_of(asks, points, (8, 0)))
            self.assertEqual(need_of(asks, points, (8, 1)), ("ask",))
        self.assertEqual(points.points(), ahead)
        self.assertEqual(asks, [2, 8])

    def test_kinds(self):
        self.assertIsInstance(thinned([2, 8], grid(9, 2)), Points)


if __name__ == "__main__":
    unittest.main()
