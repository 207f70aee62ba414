"""Promises 4 and 2, of thirdpoint.points."""

import copy
import itertools
import unittest

from thirdpoint.errors import NoPoint, NoPoints, TooMany
from thirdpoint.points import Points, is_key

NO_KEYS = [None, True, False, -1, 31, 32, 200, -30, 10 ** 59, -10 ** 59, "", "0", "1", b"\x01", 1.0, 0.0, 0.5,
           (), (1,), [], [1], {}, {1: 1}, set(), {1}, object(), Points(), Points([(1, 1)]), int, len]
NO_TUPLES = [None, True, 0, 5, 1.0, "", "ab", b"ab", [], [1, 2], [0, 0], {}, {0: 0}, {0, 1}, object(), Points(),
             Points([(0, 0)]), range(2), (), (0,), (0, 0, 0), ((0, 0),), ((0, 0), (0, 0))]
NO_POINTS = NO_TUPLES + [(thing, 0) for thing in NO_KEYS] + [(0, thing) for thing in NO_KEYS] + \
            [(thing, 1) for thing in NO_KEYS] + [(1, thing) for thing in NO_KEYS] + [(None, None), (True, True)]
NO_ROWS = [0, 1, True, False, "", "ab", b"", {}, {(0, 0): 1}, set(), {(0, 0)}, frozenset([(0, 0)]), object(), 1.0,
           Points(), Points([(0, 0)]), range(0), iter([])]


def grid(many):
    """So many unlike points, in an order that is not theirs."""
    return [(at % 31, at // 31) for at in reversed(range(many))]


def told(points):
    """The points in the order of promise 4, reckoned another way."""
    return [(key, moment) for moment in range(31) for key in range(31) if (key, moment) in points]


class Keys(unittest.TestCase):
    def test_keys(self):
        for number in range(31):
            self.assertIs(is_key(number), True)
        self.assertIs(is_key(thing=30), True)

    def test_no_keys(self):
        for thing in NO_KEYS:
            self.assertIs(is_key(thing), False, thing)


class Making(unittest.TestCase):
    def test_of_nothing_and_of_none(self):
        for made in (Points(), Points(None), Points(points=None), Points([]), Points(())):
            self.assertEqual(made.points(), [])
            self.assertEqual(len(made), 0)

    def test_of_lists_and_tuples_in_any_order(self):
        wanted = [(0, 1), (3, 1), (2, 2)]
        for row in itertools.permutations(wanted):
            for made in (Points(list(row)), Points(row), Points(points=list(row)), Points(points=row)):
                self.assertEqual(made.points(), wanted)

    def test_alike_ones_once(self):
        made = Points([(3, 1), (0, 1), (3, 1), (3, 1), (0, 1)])
        self.assertEqual(made.points(), [(0, 1), (3, 1)])
        self.assertEqual(len(made), 2)
        self.assertEqual(Points([(7, 7)] * 200).points(), [(7, 7)])

    def test_key_and_moment_are_not_mixed_up(self):
        self.assertEqual(Points([(1, 2), (2, 1)]).points(), [(2, 1), (1, 2)])

    def test_the_corners(self):
        corners = [(0, 0), (30, 0), (0, 30), (30, 30)]
        self.assertEqual(Points(corners).points(), corners)

    def test_one_199_and_200_points(self):
        for many in (1, 199, 200):
            for row in (grid(many), tuple(grid(many))):
                made = Points(row)
                self.assertEqual(len(made), many)
                self.assertEqual(made.points(), told(row))

    def refused(self, thing, number):
        with self.assertRaises(NoPoints) as caught:
            Points(thing)
        self.assertEqual(repr(caught.exception.number), repr(number))
        with self.assertRaises(NoPoints) as caught:
            Points([(1, 1)]).more(thing)
        self.assertEqual(repr(caught.exception.number), repr(number))

    def test_longer_ones_are_refused(self):
        self.refused(grid(201), None)
        self.refused(tuple(grid(201)), None)
        self.refused([(0, 0)] * 201, None)
        self.refused(grid(200) + [grid(200)[0]], None)
        self.refused([None] + grid(200), None)
        self.refused(grid(961), None)

    def test_neither_list_nor_tuple(self):
        for thing in NO_ROWS:
            self.refused(thing, None)

    def test_the_first_thing_that_is_no_point(self):
        for thing in NO_POINTS:
            self.refused([thing], 0)
            self.refused((thing,), 0)
            self.refused([(0, 0), (0, 0), thing, (1, 1)], 2)
            self.refused(((0, 0), thing, thing), 1)
        self.refused(grid(199) + [None], 199)
        self.refused((0, 1), 0)

    def test_true_beside_one(self):
        self.refused([(1, 0), (True, 0)], 1)
        self.refused([(0, 0), (0, False)], 1)


class Telling(unittest.TestCase):
    def setUp(self):
        self.made = Points([(5, 9), (3, 2), (30, 0), (0, 2), (1, 0), (3, 9), (3, 0), (0, 30)])

    def test_points_by_moments_then_keys(self):
        self.assertEqual(self.made.points(),
                         [(1, 0), (3, 0), (30, 0), (0, 2), (3, 2), (3, 9), (5, 9), (0, 30)])

    def test_has(self):
        for key in range(-1, 33):
            for moment in range(-1, 33):
                self.assertIs(self.made.has((key, moment)), (key, moment) in self.made.points())
        self.assertIs(self.made.has(point=(5, 9)), True)

    def test_has_of_anything(self):
        made = Points([(0, 0), (0, 1), (1, 0), (1, 1)])
        for thing in NO_POINTS + NO_ROWS + [((1, [2]), 0), ([], {}), ({}, 0), (1.0, 0), [[0, 0]], [(0, 0)]]:
            self.assertIs(made.has(thing), False, thing)

    def test_true_is_not_one(self):
        self.assertIs(Points([(1, 0)]).has((1, 0)), True)
        self.assertIs(Points([(1, 0)]).has((True, 0)), False)
        self.assertIs(Points([(1, 0)]).has((1, False)), False)

    def test_keys_at(self):
        self.assertEqual(self.made.keys_at(0), [1, 3, 30])
        self.assertEqual(self.made.keys_at(moment=2), [0, 3])
        self.assertEqual(self.made.keys_at(9), [3, 5])
        self.assertEqual(self.made.keys_at(30), [0])
        self.assertEqual(self.made.keys_at(1), [])

    def test_moments_of(self):
        self.assertEqual(self.made.moments_of(3), [0, 2, 9])
        self.assertEqual(self.made.moments_of(key=0), [2, 30])
        self.assertEqual(self.made.moments_of(30), [0])
        self.assertEqual(self.made.moments_of(2), [])

    def test_none_of_anything_else(self):
        made = Points([(0, 0), (0, 1), (1, 0), (1, 1)])
        for thing in NO_KEYS:
            self.assertEqual(made.keys_at(thing), [])
            self.assertEqual(made.moments_of(thing), [])

    def test_all_keys_and_all_moments(self):
        self.assertEqual(self.made.all_keys(), [0, 1, 3, 5, 30])
        self.assertEqual(self.made.all_moments(), [0, 2, 9, 30])
        self.assertEqual(Points().all_keys(), [])
        self.assertEqual(Points().all_moments(), [])
        self.assertEqual(Points(grid(200)).all_keys(), list(range(31)))
        self.assertEqual(Points(grid(200)).all_moments(), list(range(7)))


class More(unittest.TestCase):
    def test_all_of_both(self):
        made = Points([(4, 4), (0, 9)])
        for row in ([(3, 4), (4, 4), (1, 0)], ((3, 4), (4, 4), (1, 0)), [(3, 4), (1, 0), (3, 4)]):
            new = made.more(row)
            self.assertIsInstance(new, Points)
            self.assertEqual(new.points(), [(1, 0), (3, 4), (4, 4), (0, 9)])
            self.assertEqual(made.points(), [(4, 4), (0, 9)])
        self.assertEqual(made.more(points=[(1, 1)]).points(), [(1, 1), (4, 4), (0, 9)])

    def test_none_more(self):
        made = Points([(4, 4)])
        self.assertEqual(made.more([]), made)
        self.assertEqual(made.more(()), made)
        self.assertEqual(Points().more([]), Points())

    def test_none_is_refused(self):
        with self.assertRaises(NoPoints) as caught:
            Points([(0, 0)]).more(None)
        self.assertIsNone(caught.exception.number)

    def too_many(self, made, row, many):
        before = made.points()
        with self.assertRaises(TooMany) as caught:
            made.more(row)
        self.assertEqual(caught.exception.many, many)
        self.assertEqual(made.points(), before)

    def test_up_to_200(self):
        self.assertEqual(len(Points(grid(199)).more([(30, 30)])), 200)
        self.assertEqual(len(Points().more(grid(200))), 200)
        self.assertEqual(Points(grid(200)).more(grid(200)), Points(grid(200)))
        self.assertEqual(len(Points(grid(150)).more(grid(200))), 200)

    def test_more_than_200(self):
        self.too_many(Points(grid(200)), [(30, 30)], 201)
        self.too_many(Points(grid(200)), [(30, 30), (30, 30), (0, 0)], 201)
        self.too_many(Points(grid(199)), ((30, 30), (29, 30)), 201)
        self.too_many(Points(grid(200)), [(key, 30 - at) for at in range(7) for key in range(28)], 396)
        self.too_many(Points(grid(200)), [(key, 20 - at) for at in range(10) for key in range(20)], 400)

    def test_no_points_goes_ahead_of_too_many(self):
        for row, number in ((grid(201), None), ([(30, 30), (31, 30)], 1), (None, None)):
            with self.assertRaises(NoPoints) as caught:
                Points(grid(200)).more(row)
            self.assertEqual(caught.exception.number, number)


class Less(unittest.TestCase):
    def test_each_one_may_be_taken(self):
        row = [(3, 0), (1, 1), (3, 1), (1, 3)]
        made = Points(row)
        for point in row:
            new = made.less(point)
            self.assertIsInstance(new, Points)
            self.assertEqual(new.points(), [other for other in row if other != point])
            self.assertEqual(made.points(), row)
        self.assertEqual(made.less(point=(3, 0)).points(), row[1:])
        self.assertEqual(Points([(1, 1)]).less((1, 1)), Points())

    def test_what_is_not_among_them(self):
        made = Points([(0, 0), (1, 0)])
        for thing in NO_POINTS + NO_ROWS + [(0, 1), (1, 1), (30, 30), (1.0, 0), ([], {}), [(0, 0)]]:
            with self.assertRaises(NoPoint) as caught:
                made.less(thing)
            self.assertIs(caught.exception.point, thing)
            self.assertEqual(made.points(), [(0, 0), (1, 0)])

    def test_of_no_points(self):
        with self.assertRaises(NoPoint) as caught:
            Points().less((0, 0))
        self.assertEqual(caught.exception.point, (0, 0))


class LikeOthers(unittest.TestCase):
    def test_equal(self):
        row = [(0, 1), (3, 1), (2, 2)]
        self.assertTrue(Points(row) == Points(tuple(reversed(row)) + ((0, 1),)))
        self.assertFalse(Points(row) != Points(row[::-1]))
        self.assertTrue(Points() == Points([]))
        self.assertTrue(Points(row).less((0, 1)).more([(0, 1)]) == Points(row))

    def test_not_equal(self):
        made = Points([(0, 1), (3, 1)])
        for other in (Points(), Points([(0, 1)]), Points([(0, 1), (3, 2)]), Points([(1, 0), (1, 3)])):
            self.assertFalse(made == other)
            self.assertTrue(made != other)
            self.assertFalse(other == made)

    def test_equal_to_nothing_else(self):
        for row in ([], [(0, 1), (3, 1)]):
            made = Points(row)
            for other in NO_KEYS[:-4] + [row, tuple(row), set(row), repr(made), len(row), bool(row), Points]:
                self.assertIs(made == other, False)
                self.assertIs(made != other, True)
                self.assertIs(other == made, False)

    def test_in_a_list(self):
        rows = [None, Points(), [(0, 1)], Points([(0, 1)])]
        self.assertIn(Points([(0, 1)]), rows)
        self.assertEqual(rows.index(Points([(0, 1)])), 3)
        self.assertNotIn(Points([(1, 0)]), rows)

    def test_len_and_truth(self):
        self.assertEqual(len(Points([(0, 1), (3, 1), (0, 1)])), 2)
        self.assertIs(bool(Points()), False)
        self.assertIs(bool(Points([(0, 0)])), True)

    def test_repr_and_str(self):
        for row, text in (([], "Points([])"), ([(0, 0)], "Points([(0, 0)])"),
                          (((3, 1), (0, 1)), "Points([(0, 1), (3, 1)])"),
                          ([(0, 30), (12, 2), (12, 2)], "Points([(12, 2), (0, 30)])")):
            self.assertEqual(repr(Points(row)), text)
            self.assertEqual(str(Points(row)), text)


class NothingKept(unittest.TestCase):
    def test_what_is_handed_in_is_not_changed(self):
        row = [(3, 1), (0, 1), (3, 1)]
        before = copy.deepcopy(row)
        Points(row)
        Points([(9, 9)]).more(row)
        self.assertEqual(row, before)
        wrong = [(3, 1), None]
        for deed in (Points, Points().more):
            self.assertRaises(NoPoints, deed, wrong)
        self.assertEqual(wrong, [(3, 1), None])

    def test_what_is_handed_in_is_not_kept(self):
        row = [(0, 1), (3, 1)]
        made, more = Points(row), Points().more(row)
        row.append((5, 5))
        row[0] = None
        for points in (made, more):
            self.assertEqual(points.points(), [(0, 1), (3, 1)])
            self.assertEqual(len(points), 2)
            self.assertTrue(points.has((0, 1)))

    def test_every_list_is_a_new_one(self):
        made = Points([(0, 1), (3, 1), (0, 2)])
        asked = (made.points, lambda: made.keys_at(1), lambda: made.moments_of(0), made.all_keys, made.all_moments,
                 lambda: made.keys_at(9), lambda: made.moments_of(None))
        for ask in asked:
            first = ask()
            wanted = list(first)
            first.append((9, 9))
            first.reverse()
            self.assertEqual(ask(), wanted)
            self.assertIsInstance(ask(), list)
            self.assertIsNot(ask(), ask())
        self.assertEqual(repr(made), "Points([(0, 1), (3, 1), (0, 2)])")

    def test_later_deeds_change_no_told_list(self):
        made = Points([(0, 1)])
        first = made.points()
        made.more([(1, 1)])
        made.less((0, 1))
        self.assertEqual(first, [(0, 1)])
        self.assertEqual(made.points(), [(0, 1)])

    def test_new_points_share_nothing_that_changes(self):
        made = Points([(0, 1), (2, 2)])
        for new in (made.more([]), made.more([(0, 1)])):
            new.points().clear()
            self.assertEqual(made.points(), [(0, 1), (2, 2)])
            self.assertEqual(new.points(), [(0, 1), (2, 2)])


if __name__ == "__main__":
    unittest.main()
