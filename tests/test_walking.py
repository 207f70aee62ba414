"""Promises 10, 3 (b) and 2, of thirdpoint.walking."""

import unittest

from drawing import NO_KEYS, above, chain, drawn_runs, drawn_sets, whole
from thirdpoint.errors import NoAsks, NotServed, PointError
from thirdpoint.points import Points
from thirdpoint.runs import look_at_run, touched, trees_of
from thirdpoint.walking import run_of


def coming(points, key, moment):
    """The next moment of the key behind this one, 31 where there is none."""
    return min([at for other, at in points if other == key and at > moment] + [31])


def reckoned_run(asks, points):
    """The run by the words of promise 10: keys come into an empty tree by their ranks, then by themselves."""
    keys = sorted({key for key, moment in points}, key=lambda key: (coming(points, key, -1), key))
    tops = []
    for number in range(len(asks)):
        row = [key for key, moment in points if moment == number]
        tops.append(whole(sorted(row, key=lambda key: (coming(points, key, number), key))))
    return (whole(keys), tops)


# Asks with lists of points that serve them.
SERVED = list(drawn_sets(21, 200)) + [(asks, touched(run).points()) for asks, run in drawn_runs(22, 150)]


class RunOf(unittest.TestCase):
    def test_a_few(self):
        self.assertEqual(run_of([5], Points([(5, 0)])), ((5, None, None), [(5, None, None)]))
        self.assertEqual(run_of([0, 1], Points([(0, 0), (1, 0), (1, 1)])),
                         ((0, None, (1, None, None)), [(1, (0, None, None), None), (1, None, None)]))
        self.assertEqual(run_of(points=Points([(0, 0), (0, 1), (1, 1)]), asks=[0, 1]),
                         ((0, None, (1, None, None)), [(0, None, None), (0, None, (1, None, None))]))

    def test_the_first_moment_ranks_in_the_tree_and_the_next_one_in_the_tops(self):
        points = Points([(2, 0), (2, 1), (4, 1), (7, 1), (4, 2), (2, 3), (4, 3), (7, 3)])
        self.assertEqual(run_of([2, 7, 4, 7], points),
                         ((2, None, (4, None, (7, None, None))),
                          [(2, None, None), (4, (2, None, None), (7, None, None)), (4, None, None),
                           (2, None, (4, None, (7, None, None)))]))

    def test_of_those_alike_the_least_key(self):
        self.assertEqual(run_of([9], Points([(9, 0), (3, 0), (30, 0)])),
                         (chain([3, 9, 30]), [chain([3, 9, 30])]))

    def test_held_against_the_words(self):
        for asks, points in SERVED:
            self.assertEqual(run_of(asks, Points(points)), reckoned_run(asks, points))

    def test_it_serves_and_touches_just_the_points(self):
        unasked = 0
        for asks, points in SERVED:
            run = run_of(asks, Points(points))
            self.assertIsNone(look_at_run(asks, run))
            self.assertEqual(touched(run), Points(points))
            unasked += len({key for key, moment in points} - set(asks)) > 0
        self.assertGreater(unasked, 50)

    def test_no_node_comes_next_later_than_one_beneath_it(self):
        for asks, points in SERVED:
            for moment, tree in enumerate(trees_of(run_of(asks, Points(points)))):
                for key, over in above(tree).items():
                    if over is not None:
                        self.assertLessEqual(coming(points, over, moment - 1), coming(points, key, moment - 1))

    def test_31_moments_and_200_points(self):
        points = Points([(key, moment) for moment in range(31) for key in range(6)])
        run = run_of([3] * 31, points)
        self.assertEqual(touched(run), points)
        self.assertIsNone(look_at_run([3] * 31, run))
        points = Points([(key, moment) for moment in range(10) for key in range(20)])
        self.assertEqual(touched(run_of([19] * 10, points)), points)


class Refused(unittest.TestCase):
    def refused(self, asks, points):
        with self.assertRaises(NotServed) as caught:
            run_of(asks, points)
        self.assertIsInstance(caught.exception, PointError)

    def test_not_filled(self):
        self.refused([0, 1], Points([(0, 0), (1, 1)]))
        self.refused([0, 0], Points([(0, 0), (0, 1), (2, 0), (1, 1)]))

    def test_an_ask_lacks(self):
        self.refused([3], Points())
        self.refused([3], Points([(4, 0)]))
        self.refused([3, 3], Points([(3, 0)]))
        self.refused([3, 3], Points([(3, 1)]))

    def test_a_moment_behind_the_asks(self):
        self.refused([3], Points([(3, 0), (3, 1)]))
        self.refused([3], Points([(3, 0), (3, 30)]))

    def test_no_asks_goes_ahead(self):
        for points in (Points(), Points([(0, 0), (1, 1)]), Points([(3, 0)])):
            for asks in (None, (), (3,), [], "3", 3, {0: 3}, [3] * 32):
                with self.assertRaises(NoAsks) as caught:
                    run_of(asks, points)
                self.assertIsNone(caught.exception.number)
            for thing in NO_KEYS:
                with self.assertRaises(NoAsks) as caught:
                    run_of(points=points, asks=[3, thing, thing])
                self.assertEqual(caught.exception.number, 1)


class NothingKept(unittest.TestCase):
    def test_nothing_is_changed_or_kept(self):
        asks, points = [0, 1], Points([(0, 0), (1, 0), (1, 1)])
        first = run_of(asks, points)
        wanted = (first[0], list(first[1]))
        first[1].append(None)
        first[1][0] = None
        self.assertEqual(run_of(asks, points), wanted)
        self.assertEqual(asks, [0, 1])
        self.assertEqual(points.points(), [(0, 0), (1, 0), (1, 1)])

    def test_kinds(self):
        run = run_of([0], Points([(0, 0)]))
        self.assertIsInstance(run, tuple)
        self.assertIsInstance(run[1], list)


if __name__ == "__main__":
    unittest.main()
