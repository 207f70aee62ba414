"""Promises 5 and 2, of thirdpoint.boxes."""

import itertools
import random
import unittest

from thirdpoint.boxes import bare_pairs, is_filled, thirds
from thirdpoint.errors import NoBox
from thirdpoint.points import Points

NO_POINTS = [None, True, 0, "", "ab", [], [1, 2], {}, {(1, 2): 3}, object(), Points(), Points([(1, 2)]),
             (), (1,), (1, 2, 3), (None, 2), (1, None), (-1, 2), (1, -1), (31, 2), (1, 31), (10 ** 59, 2),
             (True, 2), (False, 2), (1, True), (1, False), ("1", 2), (1, "2"), (1.0, 2), ([1], 2), ((1,), 2)]


def reckoned_thirds(points, one, other):
    """The thirds, by the words of promise 5, cell by cell."""
    keys = range(min(one[0], other[0]), max(one[0], other[0]) + 1)
    moments = range(min(one[1], other[1]), max(one[1], other[1]) + 1)
    cells = [(key, moment) for moment in moments for key in keys]
    held = set(points.points())
    return [cell for cell in cells if cell in held and cell != one and cell != other]


def reckoned_pairs(points):
    """The bare pairs, by the words of promise 5."""
    pairs = []
    for one, other in itertools.permutations(points.points(), 2):
        if one[1] < other[1] and one[0] != other[0] and not reckoned_thirds(points, one, other):
            pairs.append((one, other))
    return sorted(pairs, key=lambda pair: (pair[0][1], pair[0][0], pair[1][1], pair[1][0]))


def all_sets(wide, high):
    """All Points of a small grid."""
    cells = [(key, moment) for key in range(wide) for moment in range(high)]
    for many in range(len(cells) + 1):
        for row in itertools.combinations(cells, many):
            yield Points(row)


def some_sets():
    """Larger Points, the same each time."""
    source = random.Random(5)
    cells = [(key, moment) for key in range(31) for moment in range(31)]
    for many in (10, 40, 90):
        yield Points(source.sample(cells, many))
    for side in (3, 6, 10):
        small = [cell for cell in cells if max(cell) < side]
        for many in range(0, len(small) + 1, side):
            yield Points(source.sample(small, many))


class Thirds(unittest.TestCase):
    def setUp(self):
        self.made = Points([(1, 1), (5, 5), (3, 3), (1, 5), (5, 1), (3, 1), (1, 4), (0, 3), (6, 3), (3, 0), (3, 6)])

    def test_among_them_and_not_the_edge_counts(self):
        wanted = [(3, 1), (5, 1), (3, 3), (1, 4), (1, 5)]
        self.assertEqual(thirds(self.made, (1, 1), (5, 5)), wanted)
        self.assertEqual(thirds(self.made, (5, 5), (1, 1)), wanted)

    def test_the_other_corners(self):
        wanted = [(1, 1), (3, 1), (3, 3), (1, 4), (5, 5)]
        self.assertEqual(thirds(self.made, (5, 1), (1, 5)), wanted)
        self.assertEqual(thirds(self.made, (1, 5), (5, 1)), wanted)

    def test_points_that_are_not_among_them(self):
        self.assertEqual(thirds(self.made, (2, 2), (4, 4)), [(3, 3)])
        self.assertEqual(thirds(self.made, (4, 2), (2, 4)), [(3, 3)])
        self.assertEqual(thirds(self.made, (2, 2), (3, 3)), [])
        self.assertEqual(thirds(self.made, (3, 3), (2, 2)), [])
        self.assertEqual(thirds(self.made, (0, 0), (30, 30)), self.made.points())
        self.assertEqual(thirds(self.made, (29, 30), (30, 29)), [])

    def test_none(self):
        self.assertEqual(thirds(Points(), (0, 0), (30, 30)), [])
        self.assertEqual(thirds(Points([(0, 0), (30, 30)]), (0, 0), (30, 30)), [])

    def test_by_names(self):
        self.assertEqual(thirds(other=(4, 4), one=(2, 2), points=self.made), [(3, 3)])

    def test_all_boxes_of_a_small_grid(self):
        cells = [(key, moment) for key in range(4) for moment in range(4)]
        for points in (Points([(0, 0), (1, 2), (2, 1), (3, 3), (1, 1)]), Points(cells), Points(cells[::3])):
            for one, other in itertools.product(cells, cells):
                if one[0] != other[0] and one[1] != other[1]:
                    self.assertEqual(thirds(points, one, other), reckoned_thirds(points, one, other))

    def refused(self, one, other):
        before = self.made.points()
        with self.assertRaises(NoBox) as caught:
            thirds(self.made, one, other)
        self.assertIs(caught.exception.one, one)
        self.assertIs(caught.exception.other, other)
        self.assertEqual(self.made.points(), before)

    def test_points_without_a_box(self):
        self.refused((1, 1), (1, 5))
        self.refused((1, 5), (1, 1))
        self.refused((1, 1), (5, 1))
        self.refused((5, 1), (1, 1))
        self.refused((3, 3), (3, 3))
        self.refused((9, 9), (9, 9))
        self.refused((0, 9), (0, 10))

    def test_things_that_are_no_points(self):
        for thing in NO_POINTS:
            self.refused(thing, (5, 5))
            self.refused((5, 5), thing)
            self.refused((9, 9), thing)
            for other in NO_POINTS:
                self.refused(thing, other)

    def test_a_list_in_the_place_of_a_point_is_kept_as_it_is(self):
        handed = [1, 1]
        self.refused(handed, (5, 5))
        self.assertEqual(handed, [1, 1])


class BarePairs(unittest.TestCase):
    def test_a_few(self):
        self.assertEqual(bare_pairs(Points([(0, 0), (1, 1)])), [((0, 0), (1, 1))])
        self.assertEqual(bare_pairs(Points([(1, 0), (0, 1)])), [((1, 0), (0, 1))])
        self.assertEqual(bare_pairs(points=Points([(30, 0), (0, 30)])), [((30, 0), (0, 30))])
        self.assertEqual(bare_pairs(Points([(0, 0), (0, 1), (1, 1)])), [])
        self.assertEqual(bare_pairs(Points([(0, 0), (1, 0), (1, 1)])), [])
        self.assertEqual(bare_pairs(Points([(0, 0), (2, 2), (1, 1)])), [((0, 0), (1, 1)), ((1, 1), (2, 2))])

    def test_one_row_one_column_one_point_none(self):
        for row in ([(0, 3), (1, 3), (30, 3)], [(3, 0), (3, 1), (3, 30)], [(3, 3)], []):
            self.assertEqual(bare_pairs(Points(row)), [])
            self.assertIs(is_filled(Points(row)), True)

    def test_sorted_by_the_first_then_the_second(self):
        self.assertEqual(bare_pairs(Points([(4, 0), (1, 3), (2, 2), (6, 2), (7, 1), (0, 1)])),
                         [((4, 0), (0, 1)), ((4, 0), (7, 1)), ((4, 0), (2, 2)), ((4, 0), (6, 2)),
                          ((0, 1), (2, 2)), ((0, 1), (1, 3)), ((7, 1), (6, 2)), ((2, 2), (1, 3))])

    def test_all_sets_of_small_grids(self):
        for wide, high in ((3, 4), (4, 3)):
            for points in all_sets(wide, high):
                wanted = reckoned_pairs(points)
                self.assertEqual(bare_pairs(points), wanted)
                self.assertIs(is_filled(points), wanted == [])

    def test_larger_sets(self):
        for points in some_sets():
            wanted = reckoned_pairs(points)
            self.assertEqual(bare_pairs(points), wanted)
            self.assertIs(is_filled(points), wanted == [])

    def test_200_points(self):
        self.assertEqual(bare_pairs(Points([(key, moment) for key in range(20) for moment in range(10)])), [])
        checkered = Points([(2 * key + moment % 2, moment) for key in range(10) for moment in range(20)])
        self.assertEqual(len(checkered), 200)
        self.assertEqual(bare_pairs(checkered), reckoned_pairs(checkered))

    def test_bare_pairs_have_no_thirds(self):
        for points in some_sets():
            for one, other in bare_pairs(points):
                self.assertEqual(thirds(points, one, other), [])


class Filled(unittest.TestCase):
    def test_filled(self):
        self.assertIs(is_filled(Points()), True)
        self.assertIs(is_filled(points=Points([(0, 0), (1, 0), (1, 1)])), True)
        self.assertIs(is_filled(Points([(key, moment) for key in range(14) for moment in range(14)])), True)

    def test_not_filled(self):
        self.assertIs(is_filled(Points([(0, 0), (1, 1)])), False)
        self.assertIs(is_filled(Points([(29, 30), (30, 29)])), False)


class NothingKept(unittest.TestCase):
    def test_every_list_is_a_new_one(self):
        made = Points([(0, 0), (1, 1), (2, 2)])
        asked = (lambda: thirds(made, (0, 0), (2, 2)), lambda: bare_pairs(made), lambda: thirds(made, (0, 9), (1, 8)))
        for ask in asked:
            first = ask()
            wanted = list(first)
            first.append(None)
            first.reverse()
            self.assertEqual(ask(), wanted)
        self.assertEqual(made.points(), [(0, 0), (1, 1), (2, 2)])

    def test_pairs_are_tuples_of_points(self):
        for pair in bare_pairs(Points([(0, 0), (1, 1), (2, 2)])):
            self.assertIsInstance(pair, tuple)
            self.assertEqual([len(point) for point in pair], [2, 2])
            self.assertTrue(all(isinstance(point, tuple) for point in pair))


if __name__ == "__main__":
    unittest.main()
