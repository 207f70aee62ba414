"""Promises 6 and 2, of thirdpoint.asks."""

import unittest

from drawing import NO_KEYS, ORDERLY_ASKS, drawn_asks
from thirdpoint.asks import look_at_asks, points_of, serves
from thirdpoint.errors import NoAsks, PointError
from thirdpoint.points import Points

NO_LISTS = [None, True, False, 0, 5, 1.0, "", "123", b"123", (), (1,), (1, 2, 3), {}, {0: 1}, {1, 2}, object(),
            range(3), iter([1]), Points(), Points([(1, 0)])]
WRONG_LENGTHS = [[], [0] * 32, [0] * 33, list(range(31)) + [0], [0] * 1000, [None] * 32, ["a"] * 40]


class Looking(unittest.TestCase):
    def refused(self, thing, number):
        asked = [lambda: look_at_asks(thing), lambda: points_of(thing), lambda: serves(thing, Points()),
                 lambda: serves(thing, Points([(0, 0), (1, 1)])), lambda: look_at_asks(thing=thing),
                 lambda: points_of(asks=thing), lambda: serves(points=Points(), asks=thing)]
        for ask in asked:
            with self.assertRaises(NoAsks) as caught:
                ask()
            self.assertEqual(repr(caught.exception.number), repr(number))
            self.assertIsInstance(caught.exception, PointError)

    def test_asks_are_let_by(self):
        for asks in ([0], [30], [5, 5], [0, 30], list(range(31)), [7] * 31, list(range(30, -1, -1))):
            self.assertIsNone(look_at_asks(asks))
        self.assertIsNone(look_at_asks(thing=[3]))

    def test_no_lists(self):
        for thing in NO_LISTS:
            self.refused(thing, None)

    def test_no_asks_and_more_than_31(self):
        for thing in WRONG_LENGTHS:
            self.refused(thing, None)

    def test_the_first_thing_that_is_no_key(self):
        for thing in NO_KEYS:
            self.refused([thing], 0)
            self.refused([thing, 1, thing], 0)
            self.refused([0, 1, thing, 2], 2)
            self.refused([0, 1, thing, None, thing], 2)
            self.refused([0] * 30 + [thing], 30)

    def test_true_beside_one(self):
        self.refused([1, True], 1)
        self.refused([0, 0, False], 2)

    def test_lists_stay_as_they_were(self):
        for thing in ([0, 1, "a"], [], [3] * 32, [4, 5]):
            ahead = list(thing)
            try:
                look_at_asks(thing)
            except NoAsks:
                pass
            self.assertEqual(thing, ahead)


class PointsOfAsks(unittest.TestCase):
    def test_a_few(self):
        self.assertEqual(points_of([4]), Points([(4, 0)]))
        self.assertEqual(points_of([4, 2, 4]).points(), [(4, 0), (2, 1), (4, 2)])
        self.assertEqual(points_of(asks=[30, 0]).points(), [(30, 0), (0, 1)])

    def test_just_these(self):
        for asks in ORDERLY_ASKS + list(drawn_asks(1, 60)):
            self.assertEqual(points_of(asks).points(), list(zip(asks, range(31))))

    def test_nothing_is_kept(self):
        asks = [1, 2, 3]
        made = points_of(asks)
        self.assertEqual(asks, [1, 2, 3])
        asks[0] = 9
        asks.append(4)
        self.assertEqual(made.points(), [(1, 0), (2, 1), (3, 2)])


class Serving(unittest.TestCase):
    def test_serves(self):
        self.assertIs(serves([3], Points([(3, 0)])), True)
        self.assertIs(serves([3], Points([(3, 0), (0, 0), (30, 0)])), True)
        self.assertIs(serves([0, 1], Points([(0, 0), (1, 0), (1, 1)])), True)
        self.assertIs(serves([0, 1], Points([(0, 0), (0, 1), (1, 1)])), True)
        self.assertIs(serves(asks=[5, 5], points=Points([(5, 0), (5, 1)])), True)
        self.assertIs(serves([7] * 31, Points([(7, moment) for moment in range(31)])), True)

    def test_not_filled_alone(self):
        self.assertIs(serves([0, 1], Points([(0, 0), (1, 1)])), False)
        self.assertIs(serves([0, 0], Points([(0, 0), (0, 1), (1, 1), (2, 0)])), False)
        self.assertIs(serves([0, 1, 2], Points([(0, 0), (0, 1), (1, 1), (2, 2)])), False)

    def test_a_point_of_the_asks_lacks_alone(self):
        self.assertIs(serves([3], Points([(4, 0)])), False)
        self.assertIs(serves([3, 3, 3], Points([(3, 1), (3, 2)])), False)
        self.assertIs(serves([3, 3, 3], Points([(3, 0), (3, 2)])), False)
        self.assertIs(serves([3, 3, 3], Points([(3, 0), (3, 1)])), False)
        self.assertIs(serves([3, 4], Points([(3, 0), (3, 1)])), False)

    def test_a_moment_behind_the_asks_alone(self):
        self.assertIs(serves([3], Points([(3, 0), (3, 1)])), False)
        self.assertIs(serves([3, 3], Points([(3, 0), (3, 1), (3, 2)])), False)
        self.assertIs(serves([3, 3], Points([(3, 0), (3, 1), (3, 30)])), False)
        self.assertIs(serves([3] * 30, Points([(3, moment) for moment in range(31)])), False)
        self.assertIs(serves([3] * 30, Points([(3, moment) for moment in range(30)])), True)

    def test_no_points(self):
        self.assertIs(serves([3], Points()), False)
        self.assertIs(serves([3] * 31, Points()), False)

    def test_asked_twice_alike(self):
        asks, points = [0, 1], Points([(0, 0), (1, 0), (1, 1)])
        for time in range(3):
            self.assertIs(serves(asks, points), True)
        self.assertEqual(asks, [0, 1])
        self.assertEqual(points.points(), [(0, 0), (1, 0), (1, 1)])


if __name__ == "__main__":
    unittest.main()
