"""Promises 15, 3 (e) and 2, of thirdpoint.leasts."""

import copy
import itertools
import random
import unittest
from unittest import mock

from drawing import ORDERLY_ASKS, WRONG_ASKS, bare_one, drawn_asks, fewest_points, filled_masks, in_the_box, short_asks
from thirdpoint.asks import serves
from thirdpoint.cases import lets_case
from thirdpoint.errors import NoAsks, PointError, TooMany
from thirdpoint.fences import floor_of
from thirdpoint.fencing import fences_of
from thirdpoint.growing import Grower
from thirdpoint.leasts import least, served_by
from thirdpoint.points import Points

OVER = ("over",)


def tuples_of(case):
    """How many tuples a tree of cases has."""
    return 1 if case == OVER else 1 + sum(tuples_of(inner) for inner in case[3])


def lists_of(case):
    """All lists within a case."""
    return [] if case == OVER else [case[3]] + [inner for part in case[3] for inner in lists_of(part)]


def plain_count(asks, most, left, points=None, barred=()):
    """How many tuples a plain search by promise 14 meets, each time by some bare pair; None where more than left."""
    points = list(zip(asks, range(31))) if points is None else points
    pair = None if len(points) > most else bare_one(points)
    if left == 0 or pair is None:
        return 1 if left else None
    found = [(key, moment) for moment in range(len(asks)) for key in sorted(set(asks))
             if in_the_box((key, moment), *pair) and (key, moment) not in pair and (key, moment) not in barred]
    many = 1
    for number, third in enumerate(found):
        inner = plain_count(asks, most, left - many, points + [third], list(barred) + found[:number])
        if inner is None:
            return None
        many += inner
    return many


class Checked(unittest.TestCase):
    def checked(self, asks, most):
        """What is told of the asks and most: the word, or 400; all else in it is looked at."""
        grown = len(Grower(asks).points())
        try:
            told = served_by(asks, most)
        except TooMany as refused:
            self.assertEqual(refused.many, 400)
            self.assertTrue(len(asks) <= most < grown, (asks, most))
            self.assertTrue(len(asks) > 6 or len(set(asks)) > 4, (asks, most))
            return 400
        self.assertIsInstance(told, tuple)
        word, found = told
        if word == "served":
            self.assertLessEqual(len(found), most)
            self.assertIs(serves(asks, found), True)
        else:
            self.assertEqual(word, "none")
            self.assertIs(lets_case(asks, most, found), True)
            self.assertLess(most, grown)
        return word


class Least(Checked):
    def least_of(self, asks):
        told = least(asks)
        self.assertIsInstance(told, tuple)
        many, points, case = told
        self.assertIsInstance(points, Points)
        self.assertEqual(many, len(points))
        self.assertIs(serves(asks, points), True)
        self.assertIs(lets_case(asks, many - 1, case), True)
        for most in (many, many + 1, 60):
            self.assertIs(lets_case(asks, most, case), False)
        return many

    def test_a_few(self):
        self.assertEqual(least([5]), (1, Points([(5, 0)]), OVER))
        self.assertEqual(least([5, 5]), (2, Points([(5, 0), (5, 1)]), OVER))
        self.assertEqual(least(asks=[7] * 6), (6, Points([(7, moment) for moment in range(6)]), OVER))
        many, points, case = least([2, 8])
        self.assertEqual((many, case), (3, ("pair", (2, 0), (8, 1), [OVER, OVER])))
        self.assertIn(points, (Points([(2, 0), (8, 0), (8, 1)]), Points([(2, 0), (2, 1), (8, 1)])))
        self.assertEqual(least([0, 10, 20, 30])[0], 7)
        self.assertEqual(least([30, 0, 30, 0, 30, 0])[0], 9)

    def test_no_fewer_serve(self):
        for wide, high in ((3, 5), (4, 4), (2, 6)):
            masks = filled_masks(wide, high)
            for asks in itertools.product(range(wide), repeat=high):
                self.assertEqual(self.least_of(list(asks)), fewest_points(masks, wide, asks), asks)

    def test_fewer_asks_and_keys_far_apart(self):
        for wide, high in ((3, 3), (2, 4), (3, 4), (4, 3), (4, 2), (4, 1)):
            masks = filled_masks(wide, high)
            for asks in itertools.product(range(wide), repeat=high):
                spread = [(0, 7, 8, 30)[key] for key in asks]
                self.assertEqual(self.least_of(spread), fewest_points(masks, wide, asks), asks)

    def test_all_that_are_as_long_as_may_be(self):
        for asks in short_asks(6, 4):
            many = self.least_of(asks)
            self.assertEqual(self.least_of([30 - key for key in asks]), many)
            self.assertLessEqual(floor_of(asks, fences_of(asks)), many)
            self.assertLessEqual(many, len(Grower(asks).points()))

    def test_the_grown_set_is_not_always_least(self):
        less = [asks for asks in short_asks(5, 4) if least(asks)[0] < len(Grower(asks).points())]
        self.assertGreater(len(less), 5)

    def test_too_many(self):
        for asks in ([0] * 7, [0, 1] * 4, [0, 1, 2, 3, 0, 1, 2], list(range(31)), [7] * 31, [0, 1, 2, 3, 4],
                     [4, 3, 2, 1, 0, 4], [0, 30, 10, 20, 5], list(range(6)), [1, 1, 2, 3, 4, 5], list(range(7))):
            for ask in (lambda: least(asks), lambda: least(asks=asks)):
                with self.assertRaises(TooMany) as caught:
                    ask()
                self.assertEqual(caught.exception.many, len(asks))

    def test_just_as_many_as_may_be(self):
        self.assertEqual(self.least_of([0, 10, 20, 30, 0, 0]), least([0, 1, 2, 3, 0, 0])[0])
        self.assertEqual(self.least_of([3] * 6), 6)
        self.assertEqual(self.least_of([0, 1, 2, 3]), 7)

    def test_no_asks_goes_ahead(self):
        for asks, number in WRONG_ASKS + [([0, 1, 2, 3, 4, 5, None, 7], 6), ([0, 1, 2, 3, 31], 4)]:
            for ask in (lambda: least(asks), lambda: served_by(asks, 0), lambda: served_by(most=60, asks=asks)):
                with self.assertRaises(NoAsks) as caught:
                    ask()
                self.assertEqual(caught.exception.number, number)
                self.assertIsInstance(caught.exception, PointError)


class ServedBy(Checked):
    def test_a_few(self):
        self.assertEqual(served_by([5], 0), ("none", OVER))
        self.assertEqual(served_by([5], 1), ("served", Points([(5, 0)])))
        self.assertEqual(served_by(most=2, asks=[2, 8]), ("none", ("pair", (2, 0), (8, 1), [OVER, OVER])))
        self.assertEqual(self.checked([2, 8], 3), "served")

    def test_each_most_of_short_asks(self):
        for many in range(1, 5):
            for wide in range(1, many + 1):
                for asks in short_asks(many, wide):
                    fewest = least(asks)[0]
                    for most in range(61):
                        self.assertEqual(self.checked(asks, most), "none" if most < fewest else "served")

    def test_the_longest_of_short_asks(self):
        for asks in list(short_asks(6, 4))[::8] + list(short_asks(6, 3))[::8]:
            fewest = least(asks)[0]
            for most in list(range(5, 15)) + [0, 60]:
                wanted = "none" if most < fewest else "served"
                self.assertEqual(self.checked(asks, most), wanted)
                self.assertEqual(self.checked([30 - key for key in asks], most), wanted)

    def test_longer_asks_and_more_keys(self):
        words = []
        for asks in ORDERLY_ASKS + list(drawn_asks(61, 30)):
            for most in (len(asks) - 1, len(asks), len(asks) + 1, len(asks) + 3, len(asks) + 5, 60):
                words.append(self.checked(asks, most))
        for word in ("served", "none", 400):
            self.assertGreater(words.count(word), 5)

    def test_never_refused_where_the_grown_set_is_so_small(self):
        small = 0
        for asks in ORDERLY_ASKS + list(drawn_asks(63, 60)):
            grown = len(Grower(asks).points())
            if grown <= 60:
                small += len(asks) == 31
                for most in (grown, min(grown + 1, 60), 60):
                    self.assertEqual(self.checked(asks, most), "served")
        self.assertGreater(small, 5)

    def test_never_refused_where_there_are_more_asks_than_most(self):
        source = random.Random(64)
        for asks in ORDERLY_ASKS + [source.sample(range(31), 31) for time in range(10)]:
            for most in (0, 1, len(asks) // 2, len(asks) - 1):
                self.assertEqual(served_by(asks, most if most < len(asks) else 0), ("none", OVER))

    def test_31_asks_that_no_small_tree_shows(self):
        source = random.Random(65)
        for time in range(3):
            asks = source.sample(range(31), 31)
            self.assertEqual(self.checked(asks, 60), 400)
            self.assertEqual(self.checked(asks, 33), "none")

    def test_refused_only_where_a_tree_would_be_greater(self):
        source = random.Random(66)
        seen = [0, 0]
        for time in range(40):
            wide = source.choice([2, 3, 5, 7])
            asks = [source.randrange(wide) for moment in range(source.choice([7, 8, 10]))]
            for most in range(len(asks), len(Grower(asks).points())):
                if plain_count(asks, most, 400) is not None:
                    seen[0] += 1
                    self.assertNotEqual(self.checked(asks, most), 400, (asks, most))
                else:
                    seen[1] += self.checked(asks, most) != 400
                    break
        self.assertGreater(min(seen), 10)

    def test_at_most_400_tuples(self):
        greatest = 0
        for asks in ([1, 3, 0, 3, 0, 2], [0, 2, 2, 1, 1, 0, 0, 2], [0, 7, 6, 2, 1, 4, 3, 5], [1, 4, 3, 2, 4, 0]):
            for most in range(len(asks), len(Grower(asks).points())):
                if self.checked(asks, most) == "none":
                    greatest = max(greatest, tuples_of(served_by(asks, most)[1]))
        self.assertLessEqual(greatest, 400)
        self.assertGreater(greatest, 250)

    def test_two_ways_of_searching(self):
        # Of each of these one choice of pairs alone comes to an end.
        for asks, most, word in (([2, 4, 0, 3, 1, 0, 1, 0], 14, "none"), ([4, 1, 4, 1, 1, 2, 3], 12, "served"),
                                 ([0, 3, 2, 2, 1, 4], 12, "served"), ([5, 0, 2, 1, 3, 3, 3, 4], 16, "served")):
            self.assertEqual(self.checked(asks, most), word)

    def test_sets_that_are_there_are_found_where_cases_would_be_too_many(self):
        # Here either way of searching for cases meets more than 400 tuples, and yet so few points can serve.
        for asks, most in (([0, 2, 3, 4, 5, 1], 13), ([0, 1, 4, 2, 0, 3], 12), ([0, 3, 2, 1, 3, 3, 0], 14),
                           ([0, 0, 2, 1, 3, 0, 4], 13), ([0, 3, 2, 1, 3, 1, 0, 2], 16),
                           ([0, 0, 1, 0, 4, 2, 3, 3, 2, 4], 18), ([0, 1, 7, 2, 3, 4, 5, 6], 18)):
            self.assertLess(most, len(Grower(asks).points()))
            self.assertEqual(self.checked(asks, most), "served")
            self.assertEqual(self.checked([key + 20 for key in asks], most), "served")

    def test_the_bound_itself(self):
        # Here no choice of pairs makes the tree any smaller.
        asks = [0, 0, 0, 1, 1, 1, 0]
        told = served_by(asks, 8)
        self.assertEqual(told[0], "none")
        many = tuples_of(told[1])
        with mock.patch("thirdpoint.leasts.MOST_CASES", many):
            self.assertEqual(served_by(asks, 8), told)
        with mock.patch("thirdpoint.leasts.MOST_CASES", many - 1):
            with self.assertRaises(TooMany) as caught:
                served_by(asks, 8)
            self.assertEqual(caught.exception.many, many - 1)

    def test_where_the_grown_set_is_at_the_floor_nothing_has_fewer(self):
        source, seen = random.Random(67), 0
        drawn = [[source.randrange(4) for moment in range(source.choice([4, 6, 8]))] for time in range(150)]
        for asks in [list(range(31)), list(range(30, -1, -1)), [7] * 31, [0, 30] * 3] + drawn:
            grown = len(Grower(asks).points())
            if grown == floor_of(asks, fences_of(asks)):
                seen += 1
                if grown <= 60:
                    self.assertEqual(self.checked(asks, grown), "served")
                for most in range(max(grown - 3, 0), min(grown, 61)):
                    self.assertIn(self.checked(asks, most), ("none", 400))
                if len(asks) <= 6:
                    self.assertEqual(least(asks)[0], grown)
        self.assertGreater(seen, 20)


class NothingKept(unittest.TestCase):
    def test_nothing_handed_in_is_changed(self):
        asks = [0, 9, 5, 0]
        least(asks)
        for most in (0, 4, 5, 6, 60):
            served_by(asks, most)
        self.assertEqual(asks, [0, 9, 5, 0])

    def test_every_list_is_a_new_one(self):
        for ask in (lambda: least([1, 3, 0, 3, 0, 2])[2], lambda: served_by([1, 3, 0, 3, 0, 2], 9)[1]):
            case = ask()
            wanted, lists = copy.deepcopy(case), lists_of(case)
            self.assertGreater(len(lists), 10)
            self.assertEqual(len({id(inner) for inner in lists}), len(lists))
            for inner in lists:
                inner.clear()
            self.assertEqual(ask(), wanted)

    def test_asked_twice_alike(self):
        for asks in ([3, 1, 2], [1, 3, 0, 3, 0, 2]):
            self.assertEqual(least(asks), least(list(asks)))
            for most in (0, 8, 9, 10, 60):
                self.assertEqual(served_by(asks, most), served_by(asks=list(asks), most=most))


if __name__ == "__main__":
    unittest.main()
