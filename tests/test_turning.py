"""Promises 17, the first part of 3 (g) and 2, of thirdpoint.turning."""

import random
import unittest

from drawing import NO_KEYS, ORDERLY_ASKS, WRONG_ASKS, drawn_asks, drawn_runs, drawn_sets, short_asks
from thirdpoint.asks import serves
from thirdpoint.errors import NoAsks, NoTurn, PointError
from thirdpoint.growing import Grower
from thirdpoint.leasts import least
from thirdpoint.points import Points
from thirdpoint.runs import touched
from thirdpoint.turning import backward, backward_asks, mirrored, mirrored_asks

SOME_ASKS = ORDERLY_ASKS + list(drawn_asks(81, 60))


def drawn_points(seed, many):
    """Points, so many, of all sizes, filled or not."""
    source = random.Random(seed)
    for number in range(many):
        wide, high = source.choice([(1, 1), (3, 4), (31, 31), (10, 31), (31, 5)])
        yield Points([(source.randrange(wide), source.randrange(high)) for time in range(source.randrange(60))])


SERVED = ([(asks, Points(points)) for asks, points in drawn_sets(82, 100)]
          + [(asks, touched(run)) for asks, run in drawn_runs(83, 60)]
          + [(asks, Grower(asks).points()) for asks in SOME_ASKS])


class Asks(unittest.TestCase):
    def test_mirrored(self):
        self.assertEqual(mirrored_asks([0, 3, 30]), [30, 27, 0])
        self.assertEqual(mirrored_asks([0, 3, 9], 9), [9, 6, 0])
        self.assertEqual(mirrored_asks([0, 3, 9], last=10), [10, 7, 1])
        self.assertEqual(mirrored_asks(last=5, asks=[5]), [0])
        self.assertEqual(mirrored_asks([0, 0], 0), [0, 0])

    def test_mirrored_by_30_where_nothing_is_said(self):
        for asks in SOME_ASKS:
            self.assertEqual(mirrored_asks(asks), mirrored_asks(asks, 30))
            self.assertEqual(mirrored_asks(asks=asks), [30 - key for key in asks])

    def test_backward(self):
        self.assertEqual(backward_asks([4, 0, 9]), [9, 0, 4])
        self.assertEqual(backward_asks(asks=[4]), [4])
        for asks in SOME_ASKS:
            self.assertEqual(backward_asks(asks), list(reversed(asks)))

    def test_each_last(self):
        for asks in SOME_ASKS:
            for last in range(max(asks), 31):
                self.assertEqual(mirrored_asks(asks, last), [last - key for key in asks])
            for last in range(max(asks)):
                with self.assertRaises(NoTurn) as caught:
                    mirrored_asks(asks, last)
                self.assertEqual(caught.exception.last, last)

    def test_twice(self):
        for asks in SOME_ASKS:
            self.assertEqual(backward_asks(backward_asks(asks)), asks)
            for last in (max(asks), 30):
                self.assertEqual(mirrored_asks(mirrored_asks(asks, last), last), asks)


class SetsOfPoints(unittest.TestCase):
    points = Points([(0, 1), (3, 1), (9, 4)])

    def test_a_few(self):
        self.assertEqual(mirrored(self.points), Points([(30, 1), (27, 1), (21, 4)]))
        self.assertEqual(backward(self.points), Points([(0, 29), (3, 29), (9, 26)]))
        self.assertEqual(mirrored(self.points, 9), Points([(9, 1), (6, 1), (0, 4)]))
        self.assertEqual(backward(self.points, 4), Points([(0, 3), (3, 3), (9, 0)]))
        self.assertEqual(mirrored(last=10, points=self.points), Points([(10, 1), (7, 1), (1, 4)]))
        self.assertEqual(backward(last=5, points=self.points), Points([(0, 4), (3, 4), (9, 1)]))

    def test_each_last(self):
        for points in drawn_points(84, 40):
            held = points.points()
            for last in range(31):
                keys = [(last - key, moment) for key, moment in held]
                moments = [(key, last - moment) for key, moment in held]
                for turn, wanted in ((mirrored, keys), (backward, moments)):
                    if all(key >= 0 and moment >= 0 for key, moment in wanted):
                        self.assertEqual(turn(points, last), Points(wanted))
                        self.assertEqual(turn(turn(points, last), last), points)
                    else:
                        with self.assertRaises(NoTurn) as caught:
                            turn(points, last)
                        self.assertEqual(caught.exception.last, last)
            self.assertEqual(mirrored(points), mirrored(points, 30))
            self.assertEqual(backward(points), backward(points, 30))

    def test_no_points(self):
        for last in range(31):
            self.assertEqual(mirrored(Points(), last), Points())
            self.assertEqual(backward(Points(), last), Points())
        self.assertEqual(mirrored(Points()), Points())
        self.assertEqual(backward(Points()), Points())

    def test_200_points(self):
        points = Points([(key, moment) for key in range(20) for moment in range(10)])
        self.assertEqual(len(mirrored(points)), 200)
        self.assertEqual(len(backward(points)), 200)
        self.assertEqual(mirrored(points, 19), points)
        self.assertEqual(backward(points, 9), points)


class Refused(unittest.TestCase):
    def refused(self, ask, last):
        with self.assertRaises(NoTurn) as caught:
            ask()
        self.assertIs(caught.exception.last, last)
        self.assertIsInstance(caught.exception, PointError)

    def test_no_number_to_turn_by(self):
        for last in NO_KEYS:
            self.refused(lambda: mirrored_asks([0], last), last)
            self.refused(lambda: mirrored_asks([0, 1], last=last), last)
            for points in (Points(), Points([(0, 0)]), Points([(30, 30)])):
                for turn in (mirrored, backward):
                    self.refused(lambda: turn(points, last), last)
                    self.refused(lambda: turn(points, last=last), last)

    def test_below_nothing(self):
        self.refused(lambda: mirrored_asks([0, 5, 0], 4), 4)
        self.refused(lambda: mirrored(Points([(5, 0), (0, 3)]), 4), 4)
        self.refused(lambda: backward(Points([(5, 0), (0, 3)]), 2), 2)
        self.assertEqual(mirrored(Points([(1, 9)]), 1), Points([(0, 9)]))
        self.assertEqual(backward(Points([(9, 1)]), 1), Points([(9, 0)]))

    def test_no_asks_goes_ahead(self):
        for asks, number in WRONG_ASKS:
            for ask in (lambda: mirrored_asks(asks), lambda: mirrored_asks(asks, 31), lambda: mirrored_asks(asks, None),
                        lambda: mirrored_asks(last="a", asks=asks), lambda: mirrored_asks(asks, 0),
                        lambda: backward_asks(asks), lambda: backward_asks(asks=asks)):
                with self.assertRaises(NoAsks) as caught:
                    ask()
                self.assertEqual(caught.exception.number, number)


class Serving(unittest.TestCase):
    def alike(self, asks, points):
        wanted = serves(asks, points)
        for last in (max(asks + points.all_keys()), 30):
            self.assertIs(serves(mirrored_asks(asks, last), mirrored(points, last)), wanted)
        if max(points.all_moments(), default=0) < len(asks):
            self.assertIs(serves(backward_asks(asks), backward(points, len(asks) - 1)), wanted)
        return wanted

    def test_what_serves(self):
        for asks, points in SERVED:
            self.assertIs(self.alike(asks, points), True)

    def test_what_may_not_serve(self):
        source = random.Random(85)
        seen = {True: 0, False: 0}
        for asks, points in SERVED:
            for time in range(3):
                held = points.points()
                seen[self.alike(asks, points.less(source.choice(held)))] += 1
                other = (source.randrange(31), source.randrange(len(asks)))
                seen[self.alike(asks, Points(held[:190] + [other]))] += 1
        for asks in drawn_asks(86, 60):
            for points in drawn_points(87, 5):
                seen[self.alike(asks, points)] += 1
        self.assertGreater(min(seen.values()), 50)

    def test_least_sets_have_as_many_points(self):
        for asks in list(short_asks(4, 3)) + list(short_asks(5, 4))[::2] + list(short_asks(6, 4))[::30]:
            many = least(asks)[0]
            self.assertEqual(least(mirrored_asks(asks))[0], many)
            self.assertEqual(least(mirrored_asks(asks, max(asks)))[0], many)
            self.assertEqual(least(backward_asks(asks))[0], many)
            # Turned back, the one's least set serves the other.
            points = backward(least(backward_asks(asks))[1], len(asks) - 1)
            self.assertIs(serves(asks, points), True)
            self.assertIs(serves(asks, mirrored(least(mirrored_asks(asks))[1])), True)


class NothingKept(unittest.TestCase):
    def test_nothing_handed_in_is_changed_or_kept(self):
        asks, points = [4, 0, 9], Points([(4, 0), (0, 1)])
        for ask in (lambda: mirrored_asks(asks), lambda: mirrored_asks(asks, 9), lambda: backward_asks(asks)):
            first = ask()
            wanted = list(first)
            self.assertIsNot(first, asks)
            first.clear()
            self.assertEqual(ask(), wanted)
            self.assertEqual(asks, [4, 0, 9])
        for turn in (mirrored, backward):
            self.assertEqual(turn(points), turn(points))
            self.assertIsInstance(turn(points), Points)
        self.assertEqual(points, Points([(4, 0), (0, 1)]))

    def test_one_ask_is_a_new_list_too(self):
        asks = [15]
        for turned in (mirrored_asks(asks), backward_asks(asks)):
            self.assertEqual(turned, [15])
            self.assertIsNot(turned, asks)


if __name__ == "__main__":
    unittest.main()
