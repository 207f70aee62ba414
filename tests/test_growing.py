"""Promises 11, 3 (c) and 2, of thirdpoint.growing."""

import random
import unittest
from unittest import mock

from drawing import NO_KEYS, ORDERLY_ASKS, drawn_asks
from thirdpoint.asks import serves
from thirdpoint.boxes import is_filled
from thirdpoint.errors import NoAsks, NoBack, NoKey, PointError, TooMany
from thirdpoint.growing import Grower
from thirdpoint.points import Points
from thirdpoint.runs import look_at_run, touched
from thirdpoint.walking import run_of

SOME_ASKS = ORDERLY_ASKS + list(drawn_asks(31, 120))
NO_GROWERS = [None, True, 0, "", [], [1, 2], (1, 2), {}, Points(), Points([(1, 0), (2, 1)]), object()]


def last_moment(points, key):
    """The last moment at which the key stood, or None."""
    return max([at for other, at in points if other == key], default=None)


def is_put_in(points, asked, key):
    """Whether the key comes with the key asked, by the words of promise 11."""
    if key == asked:
        return True
    own = last_moment(points, key)
    if own is None:
        return False
    bars = [asked] + list(range(min(key, asked) + 1, max(key, asked)))
    lasts = [last_moment(points, bar) for bar in bars]
    return all(last is None or own > last for last in lasts)


def reckoned(asks):
    """The keys put in at each moment, by the words of promise 11."""
    points, rows = [], []
    for moment, asked in enumerate(asks):
        row = [key for key in range(31) if is_put_in(points, asked, key)]
        rows.append(row)
        points = points + [(key, moment) for key in row]
    return rows


def points_in(rows):
    """The Points with these keys at each moment."""
    return Points([(key, moment) for moment, row in enumerate(rows) for key in row])


class Making(unittest.TestCase):
    def test_of_nothing_and_of_none(self):
        for made in (Grower(), Grower(None), Grower(asks=None)):
            self.assertEqual(made.asks(), [])
            self.assertEqual(made.points(), Points())
            self.assertEqual(len(made), 0)

    def test_of_asks(self):
        for asks in SOME_ASKS:
            slow = Grower()
            for key in asks:
                slow.ask(key)
            for made in (Grower(asks), Grower(asks=asks)):
                self.assertEqual(made.asks(), asks)
                self.assertEqual(made.points(), slow.points())
                self.assertEqual(made, slow)

    def test_no_asks(self):
        wrong = [([], None), ((), None), ((1, 2), None), ("12", None), (5, None), (True, None), (False, None),
                 (0, None), ({}, None), ({0: 1}, None), (Points(), None), ([0] * 32, None), (list(range(31)) * 2, None),
                 ([True], 0), ([1, True], 1), ([1, 2, False], 2)]
        wrong += [([0, 1, thing, 2], 2) for thing in NO_KEYS] + [([0] * 30 + [thing], 30) for thing in NO_KEYS]
        for asks, number in wrong:
            with self.assertRaises(NoAsks) as caught:
                Grower(asks)
            self.assertEqual(repr(caught.exception.number), repr(number))


class Asking(unittest.TestCase):
    def test_a_few(self):
        made = Grower()
        self.assertEqual(made.ask(3), [3])
        self.assertEqual(made.ask(5), [3, 5])
        self.assertEqual(made.ask(key=4), [3, 4, 5])
        self.assertEqual(made.ask(9), [5, 9])
        self.assertEqual(made.ask(3), [3, 5])
        self.assertEqual(made.ask(0), [0, 3])
        self.assertEqual(made.ask(9), [3, 5, 9])
        self.assertEqual(made.asks(), [3, 5, 4, 9, 3, 0, 9])

    def test_a_key_that_never_stood_is_no_bar(self):
        made = Grower([0])
        self.assertEqual(made.ask(30), [0, 30])
        self.assertEqual(made.ask(15), [0, 15, 30])

    def test_alike_last_moments_are_a_bar(self):
        made = Grower([0, 1])
        self.assertEqual(made.points().keys_at(1), [0, 1])
        self.assertEqual(made.ask(5), [1, 5])
        self.assertEqual(made.ask(1), [1])

    def test_the_same_key_again_and_again(self):
        made = Grower()
        for time in range(31):
            self.assertEqual(made.ask(7), [7])
        made = Grower([2, 6])
        for time in range(29):
            self.assertEqual(made.ask(6), [6])

    def test_rising_and_falling(self):
        for keys in (range(31), range(30, -1, -1)):
            made = Grower()
            ahead = []
            for key in keys:
                self.assertEqual(made.ask(key), sorted(ahead + [key]))
                ahead = [key]
            self.assertEqual(len(made.points()), 61)

    def test_held_against_the_rule(self):
        for asks in SOME_ASKS:
            made = Grower()
            rows = reckoned(asks)
            self.assertEqual([made.ask(key) for key in asks], rows)
            self.assertEqual(made.points(), points_in(rows))

    def test_all_short_asks_of_three_keys(self):
        for number in range(3 ** 6):
            asks = [number // 3 ** at % 3 for at in range(6)]
            self.assertEqual(Grower(asks).points(), points_in(reckoned(asks)))

    def test_filled_and_serving_at_each_moment(self):
        for asks in SOME_ASKS:
            made = Grower()
            for number, key in enumerate(asks):
                made.ask(key)
                self.assertIs(is_filled(made.points()), True)
                self.assertIs(serves(asks[:number + 1], made.points()), True)

    def test_each_moment_hangs_on_the_asks_up_to_it_alone(self):
        for asks in SOME_ASKS:
            whole = Grower(asks).points().points()
            for many in range(1, len(asks)):
                wanted = Points([point for point in whole if point[1] < many])
                self.assertEqual(Grower(asks[:many]).points(), wanted)


class Refused(unittest.TestCase):
    def unchanged(self, made, kind, value, ask):
        ahead = (made.asks(), made.points(), len(made))
        with self.assertRaises(kind) as caught:
            ask()
        self.assertEqual((made.asks(), made.points(), len(made)), ahead)
        told = caught.exception.key if kind is NoKey else caught.exception.many
        self.assertIs(told, value)

    def test_no_key(self):
        for asks in (None, [3], [1, 0], list(range(30)), [7] * 31):
            made = Grower(asks)
            for thing in NO_KEYS:
                self.unchanged(made, NoKey, thing, lambda: made.ask(thing))
                self.unchanged(made, NoKey, thing, lambda: made.ask(key=thing))
            self.assertEqual(made.asks(), asks or [])

    def test_what_it_stands_under(self):
        with self.assertRaises(LookupError) as caught:
            Grower().ask(31)
        self.assertNotIsInstance(caught.exception, PointError)

    def test_the_32nd_ask(self):
        for asks in (list(range(31)), [7] * 31, [0, 30] * 15 + [0]):
            made = Grower(asks)
            for key in (0, 7, 30):
                self.unchanged(made, TooMany, 32, lambda: made.ask(key))
            self.assertEqual(made.back(), asks[-1])
            made.ask(5)
            self.unchanged(made, TooMany, 32, lambda: made.ask(5))

    # Of 31 asks no such set was met that has more than 200 points, nor one of 150; so the bound is drawn nearer.
    @mock.patch("thirdpoint.growing.MOST_POINTS", 61)
    def test_more_points_than_may_be(self):
        asks = list(range(30))
        made = Grower(asks)
        self.assertEqual(len(made.points()), 59)
        self.unchanged(made, TooMany, 73, lambda: made.ask(15))
        self.assertEqual(made.ask(30), [29, 30])
        self.assertEqual(len(made.points()), 61)
        # At the 32nd ask how many points there would be doesn't matter.
        self.unchanged(made, TooMany, 32, lambda: made.ask(15))
        with self.assertRaises(TooMany) as caught:
            Grower(asks + [15])
        self.assertEqual(caught.exception.many, 73)
        self.assertEqual(len(Grower(asks + [30]).points()), 61)

    @mock.patch("thirdpoint.growing.MOST_POINTS", 100)
    def test_more_points_than_may_be_in_drawn_asks(self):
        source = random.Random(32)
        for number in range(20):
            asks = source.sample(range(31), 31)
            rows = reckoned(asks)
            sums = [len(points_in(rows[:many])) for many in range(len(asks) + 1)]
            over = [many for many in range(32) if sums[many] > 100]
            self.assertTrue(over)
            with self.assertRaises(TooMany) as caught:
                Grower(asks)
            self.assertEqual(caught.exception.many, sums[over[0]])
            made = Grower(asks[:over[0] - 1])
            key = asks[over[0] - 1]
            self.unchanged(made, TooMany, sums[over[0]], lambda: made.ask(key))

    def test_the_bound_itself(self):
        from thirdpoint import growing
        self.assertEqual(growing.MOST_POINTS, 200)

    def test_no_key_goes_ahead_of_too_many(self):
        made = Grower([3] * 31)
        self.unchanged(made, NoKey, None, lambda: made.ask(None))
        self.unchanged(made, NoKey, True, lambda: made.ask(True))


class Back(unittest.TestCase):
    def test_there_is_none(self):
        made = Grower()
        for time in range(2):
            with self.assertRaises(NoBack) as caught:
                made.back()
            self.assertIsInstance(caught.exception, IndexError)
            self.assertNotIsInstance(caught.exception, PointError)
            self.assertEqual(made, Grower())
        made.ask(3)
        self.assertEqual(made.back(), 3)
        with self.assertRaises(NoBack):
            made.back()

    def test_as_ahead_of_that_ask(self):
        for asks in SOME_ASKS:
            made = Grower(asks)
            for many in range(len(asks) - 1, -1, -1):
                self.assertEqual(made.back(), asks[many])
                self.assertEqual(made.asks(), asks[:many])
                self.assertEqual(len(made), many)
                fresh = Grower(asks[:many] or None)
                self.assertEqual(made.points(), fresh.points())
                self.assertEqual(made, fresh)

    def test_what_is_asked_next(self):
        source = random.Random(33)
        made, asks = Grower(), []
        for step in range(150):
            if asks and (len(asks) == 31 or source.random() < 0.4):
                self.assertEqual(made.back(), asks.pop())
                rows = reckoned(asks)
            else:
                asks.append(source.randrange(31))
                rows = reckoned(asks)
                self.assertEqual(made.ask(asks[-1]), rows[-1])
            self.assertEqual(made.asks(), asks)
            self.assertEqual(made.points(), points_in(rows))


class Telling(unittest.TestCase):
    def test_run(self):
        for asks in SOME_ASKS:
            made = Grower(asks)
            run = made.run()
            self.assertEqual(run, run_of(asks, made.points()))
            self.assertIsNone(look_at_run(asks, run))
            self.assertEqual(touched(run), made.points())

    def test_run_of_no_asks(self):
        made = Grower([3])
        made.back()
        for grower in (Grower(), made):
            with self.assertRaises(NoAsks) as caught:
                grower.run()
            self.assertIsNone(caught.exception.number)

    def test_len(self):
        made = Grower()
        for many in range(31):
            self.assertEqual(len(made), many)
            made.ask(many % 5)
        self.assertEqual(len(made), 31)
        made.back()
        self.assertEqual(len(made), 30)

    def test_equal_where_the_asks_are_the_same(self):
        one, other = Grower([1, 2]), Grower()
        self.assertFalse(one == other)
        other.ask(1)
        self.assertFalse(one == other)
        other.ask(2)
        self.assertTrue(one == other)
        other.ask(3)
        self.assertTrue(one != other)
        other.back()
        self.assertTrue(one == other)
        self.assertFalse(one != other)
        self.assertTrue(Grower() == Grower())
        self.assertFalse(Grower([1, 2]) == Grower([2, 1]))
        self.assertFalse(Grower([1, 1]) == Grower([1]))

    def test_equal_to_nothing_else(self):
        for made in (Grower(), Grower([1, 2])):
            for thing in NO_GROWERS:
                self.assertFalse(made == thing)
                self.assertFalse(thing == made)
                self.assertTrue(made != thing)


class Twins(unittest.TestCase):
    def test_equal_and_apart(self):
        for asks in (None, [3], [1, 5, 3], list(range(31)), [7] * 31):
            made = Grower(asks)
            other = made.twin()
            self.assertIsInstance(other, Grower)
            self.assertIsNot(other, made)
            self.assertEqual(other, made)
            self.assertEqual(other.points(), made.points())
            ahead = made.points()
            while len(other):
                other.back()
            other.ask(30)
            self.assertEqual(made.asks(), asks or [])
            self.assertEqual(made.points(), ahead)

    def test_nothing_done_to_the_first_changes_the_twin(self):
        made = Grower([1, 5, 3])
        other = made.twin()
        wanted = Grower([1, 5, 3, 2]).points()
        made.back()
        made.ask(9)
        self.assertEqual(other.asks(), [1, 5, 3])
        other.ask(2)
        self.assertEqual(other.points(), wanted)
        self.assertEqual(made.asks(), [1, 5, 9])

    def test_twin_of_one_with_asks_taken_back(self):
        made = Grower([1, 5, 3])
        made.back()
        self.assertEqual(made.twin().asks(), [1, 5])
        made.back()
        made.back()
        self.assertEqual(made.twin(), Grower())


class NothingKept(unittest.TestCase):
    def test_the_asks_handed_in(self):
        asks = [1, 5, 3]
        made = Grower(asks)
        made.ask(4)
        self.assertEqual(asks, [1, 5, 3])
        asks[0] = 9
        asks.clear()
        self.assertEqual(made.asks(), [1, 5, 3, 4])
        self.assertEqual(made.points(), Grower([1, 5, 3, 4]).points())

    def test_told_lists_are_the_askers_own(self):
        made = Grower([1, 5])
        row = made.ask(3)
        wanted = (made.asks(), made.points(), made.run())
        row.clear()
        told = made.asks()
        told.append(9)
        run = made.run()
        run[1].clear()
        self.assertEqual((made.asks(), made.points(), made.run()), wanted)
        self.assertEqual(made.ask(3), [3])
        self.assertEqual(wanted[0], [1, 5, 3])

    def test_nothing_asked_later_changes_them(self):
        made = Grower([1, 5])
        asks, points, run = made.asks(), made.points(), made.run()
        row = made.ask(3)
        made.ask(4)
        made.back()
        made.back()
        self.assertEqual(asks, [1, 5])
        self.assertEqual(row, [1, 3, 5])
        self.assertEqual(points, Grower([1, 5]).points())
        self.assertEqual(run, Grower([1, 5]).run())

    def test_asked_twice_alike(self):
        made = Grower([1, 5, 3])
        for time in range(2):
            self.assertEqual(made.asks(), [1, 5, 3])
            self.assertEqual(made.points(), points_in(reckoned([1, 5, 3])))
            self.assertEqual(len(made), 3)
        self.assertEqual(made.run(), made.run())


if __name__ == "__main__":
    unittest.main()
