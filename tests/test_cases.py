"""Promises 14, 3 (e) and 2, of thirdpoint.cases."""

import copy
import itertools
import random
import unittest
from unittest import mock

from drawing import NO_KEYS, WRONG_ASKS, fewest_points, filled_masks, in_the_box, ring, short_asks
from thirdpoint.boxes import bare_pairs
from thirdpoint.cases import lets_case
from thirdpoint.errors import NoAsks, PointError
from thirdpoint.points import Points

OVER = ("over",)


def in_order(points):
    """The points sorted by moments, then keys."""
    return sorted(points, key=lambda point: (point[1], point[0]))


def open_ones(asks, barred, one, other):
    """The thirds that need a case, by the words of promise 14."""
    cells = [(key, moment) for key in set(asks) for moment in range(31) if in_the_box((key, moment), one, other)]
    return in_order(set(cells) - {one, other} - set(barred))


def area(one, other):
    """How great the box of two points is."""
    return abs(one[0] - other[0]) * abs(one[1] - other[1])


def is_bare(points, one, other):
    """Whether two of the points, the earlier one first, have a box and no third in it."""
    if one not in points or other not in points or one[0] == other[0] or one[1] >= other[1]:
        return False
    return [point for point in points if in_the_box(point, one, other)] in ([one, other], [other, one])


def let_by(asks, most, thing, points=None, barred=()):
    """Whether a thing of a case's form is one, by the words of promise 14."""
    points = list(zip(asks, range(31))) if points is None else points
    if thing == OVER:
        return len(points) > most
    word, one, other, cases = thing
    if not is_bare(points, one, other):
        return False
    found = open_ones(asks, barred, one, other)
    return len(cases) == len(found) and all(
        let_by(asks, most, case, points + [third], list(barred) + found[:number])
        for number, (third, case) in enumerate(zip(found, cases)))


def drawn_case(source, asks, most, points=None, barred=()):
    """Some case for the asks and most; None where a filled set of at most most points is met."""
    points = list(zip(asks, range(31))) if points is None else points
    pairs = [(one, other) for one in points for other in points if is_bare(points, one, other)]
    if len(points) > most and (not pairs or len(points) > most + 1 or source.random() < 0.9):
        return OVER
    if not pairs:
        return None
    one, other = source.choice(pairs)
    found, cases = open_ones(asks, barred, one, other), []
    for number, third in enumerate(found):
        cases.append(drawn_case(source, asks, most, points + [third], list(barred) + found[:number]))
        if cases[-1] is None:
            return None
    return ("pair", one, other, cases)


def changed_case(source, case):
    """The case with something in it changed."""
    if case == OVER or source.random() < 0.3:
        if case == OVER:
            return ("pair", (0, 0), (1, 1), [OVER] * source.randrange(4))
        word, one, other, cases = case
        return source.choice([OVER, (word, other, one, cases), (word, one, other, cases + [OVER]),
                              (word, one, other, cases[1:]), (word, one, other, cases[::-1]),
                              (word, (one[0], other[1]), other, cases), (word, one, (other[0] + 1, other[1]), cases)])
    word, one, other, cases = case
    if not cases:
        return (word, one, other, [OVER])
    at = source.randrange(len(cases))
    return (word, one, other, cases[:at] + [changed_case(source, cases[at])] + cases[at + 1:])


class Over(unittest.TestCase):
    def test_just_where_the_points_are_more_than_most(self):
        for asks in ([5], [3, 3], [0, 30, 2], list(range(31)), [7] * 31):
            for most in range(61):
                self.assertIs(lets_case(asks, most, OVER), len(asks) > most)
            self.assertIs(lets_case(thing=OVER, most=len(asks) - 1, asks=asks), True)
            self.assertIs(lets_case(thing=OVER, most=len(asks), asks=asks), False)
            self.assertIs(lets_case(asks, 0, OVER), True)
            self.assertIs(lets_case(asks, 60, OVER), False)

    def test_behind_thirds_the_points_are_more(self):
        pair = ("pair", (2, 0), (8, 1), [OVER, OVER])
        for most, wanted in ((0, True), (1, True), (2, True), (3, False), (4, False), (60, False)):
            self.assertIs(lets_case([2, 8], most, pair), wanted)


class Pairs(unittest.TestCase):
    def check(self, asks, most, thing, wanted):
        self.assertIs(lets_case(asks, most, thing), wanted, thing)

    def test_the_lesser_moment_first(self):
        self.check([2, 8], 2, ("pair", (2, 0), (8, 1), [OVER, OVER]), True)
        self.check([2, 8], 2, ("pair", (8, 1), (2, 0), [OVER, OVER]), False)
        self.check([8, 2], 2, ("pair", (8, 0), (2, 1), [OVER, OVER]), True)
        self.check([8, 2], 2, ("pair", (2, 1), (8, 0), [OVER, OVER]), False)

    def test_points_that_are_not_there(self):
        for one, other in (((3, 0), (8, 1)), ((2, 0), (7, 1)), ((2, 1), (8, 2)), ((8, 0), (2, 1)), ((9, 0), (30, 5))):
            for many in range(6):
                self.check([2, 8], 2, ("pair", one, other, [OVER] * many), False)

    def test_one_row_one_column_and_one_point(self):
        for many in range(6):
            self.check([2, 8, 2], 2, ("pair", (2, 0), (2, 2), [OVER] * many), False)
            self.check([2, 8, 2], 2, ("pair", (2, 0), (2, 0), [OVER] * many), False)
            inner = ("pair", (2, 0), (8, 0), [OVER] * many)
            self.check([2, 8], 2, ("pair", (2, 0), (8, 1), [inner, OVER]), False)

    def test_a_pair_with_a_third(self):
        for many in range(12):
            self.check([2, 5, 8], 2, ("pair", (2, 0), (8, 2), [OVER] * many), False)
        for many in range(4):
            again = ("pair", (2, 0), (8, 1), [OVER] * many)
            self.check([2, 8], 2, ("pair", (2, 0), (8, 1), [again, OVER]), False)
            self.check([2, 8], 2, ("pair", (2, 0), (8, 1), [OVER, again]), False)

    def test_a_pair_with_a_point_that_was_put_in(self):
        # Thirds of (0, 0) and (5, 2) with the keys asked: (5, 0), (0, 1), (5, 1), (0, 2); in the first case's set
        # (9, 1) and (5, 2) are still bare.
        asks = [0, 9, 5]
        first = ("pair", (9, 1), (5, 2), [OVER, OVER])
        self.check(asks, 4, ("pair", (0, 0), (5, 2), [first] + [OVER] * 3), False)
        rest = [("pair", (9, 1), (5, 2), [OVER] * many) for many in (2, 2, 1, 2)]
        self.check(asks, 4, ("pair", (0, 0), (5, 2), rest), let_by(asks, 4, ("pair", (0, 0), (5, 2), rest)))
        inner = ("pair", (5, 0), (9, 1), [OVER, OVER])
        self.check(asks, 3, ("pair", (0, 0), (5, 2), [inner] + [OVER] * 3), True)
        self.check(asks, 4, ("pair", (0, 0), (5, 2), [inner] + [OVER] * 3), False)

    def test_how_many_cases(self):
        for many in range(6):
            self.check([2, 8], 2, ("pair", (2, 0), (8, 1), [OVER] * many), many == 2)
        # Between (0, 0) and (9, 2) there are 3 rows and the keys 0, 9: the key 20 isn't in the box.
        for many in range(9):
            self.check([0, 20, 9], 3, ("pair", (0, 0), (9, 2), [OVER] * many), many == 4)

    def test_keys_that_nobody_asked_give_no_thirds(self):
        for asks in ([0, 30], [4, 5], [10, 20]):
            self.check(asks, 2, ("pair", (asks[0], 0), (asks[1], 1), [OVER] * 2), True)
        # Asked at another moment, 5 is a key like any.
        for many in range(9):
            self.check([0, 10, 5], 3, ("pair", (0, 0), (10, 1), [OVER] * many), many == 4)
            self.check([5, 0, 10], 3, ("pair", (0, 1), (10, 2), [OVER] * many), many == 4)

    def test_barred_are_the_thirds_ahead(self):
        # Keys 0, 5, 9: of (0, 0) and (5, 2) the thirds are (5, 0), (0, 1), (5, 1), (0, 2).
        asks = [0, 9, 5]
        below = [OVER, OVER, OVER, None]
        for many in range(4):
            # (9, 1) and (5, 2) with (5, 1) barred have one open third, (9, 2).
            below[3] = ("pair", (9, 1), (5, 2), [OVER] * many)
            self.check(asks, 3, ("pair", (0, 0), (5, 2), below), many == 1)
            # Ahead of (5, 1) it isn't barred.
            early = [("pair", (9, 1), (5, 2), [OVER] * many), OVER, OVER, OVER]
            self.check(asks, 3, ("pair", (0, 0), (5, 2), early), many == 2)

    def test_all_thirds_ahead_are_barred_further_below_too(self):
        # Both thirds of (2, 0) and (8, 1) but the last barred; in its case a pair comes down to no thirds.
        source = random.Random(51)
        empty = 0
        for asks in short_asks(5, 3):
            for most in range(5, 10):
                case = drawn_case(source, asks, most)
                if case is not None:
                    self.check(asks, most, case, True)
                    empty += "[])" in repr(case)
        self.assertGreater(empty, 20)

    def test_the_order_of_the_cases(self):
        asks = [0, 9, 5]
        good = [("pair", (5, 0), (9, 1), [OVER, OVER]), OVER, OVER, OVER]
        self.check(asks, 3, ("pair", (0, 0), (5, 2), good), True)
        for at in (1, 2, 3):
            row = list(good)
            row[0], row[at] = row[at], row[0]
            self.check(asks, 3, ("pair", (0, 0), (5, 2), row), False)

    def test_every_case_counts(self):
        asks = [0, 9, 5]
        for at in range(4):
            for wrong in (None, (), ("over", 1), ("pair", (0, 0), (5, 2), []), [OVER], "over"):
                row = [OVER] * 4
                self.check(asks, 3, ("pair", (0, 0), (5, 2), row), True)
                row[at] = wrong
                self.check(asks, 3, ("pair", (0, 0), (5, 2), row), False)


class Anything(unittest.TestCase):
    good = ("pair", (2, 0), (8, 1), [OVER, OVER])

    def none(self, thing):
        self.assertIs(lets_case([2, 8], 2, thing), False)
        self.assertIs(lets_case([2, 8], 2, ("pair", (2, 0), (8, 1), [thing, OVER])), False)
        self.assertIs(lets_case([2, 8], 2, ("pair", (2, 0), (8, 1), [OVER, thing])), False)

    def test_no_cases(self):
        for thing in NO_KEYS + ["over", "pair", b"over", ["over"], [OVER], (OVER,), {"over": 1}, {"over"}, Points(),
                                ("over", "over"), ("over", None), ("over", 1, 2), ("over", (2, 0), (8, 1), []),
                                ("over", (2, 0), (8, 1), [OVER, OVER]), ("Over",), ("",), ("pair",), (b"over",),
                                (None,), (True,), (["over"],), (("over",),), ("over ",), ring(), (ring(),)]:
            self.none(thing)

    def test_what_calls_itself_equal_to_all(self):
        for thing in (mock.ANY, (mock.ANY,), (mock.ANY, (2, 0), (8, 1), [OVER, OVER]),
                      ("pair", mock.ANY, (8, 1), [OVER, OVER]), ("pair", (mock.ANY, 0), (8, 1), [OVER, OVER]),
                      ("pair", (2, 0), (8, 1), mock.ANY)):
            self.none(thing)

    def test_no_pairs(self):
        for thing in [("pair", (2, 0), (8, 1)), ("pair", (2, 0), (8, 1), [OVER, OVER], None), ("pair", (2, 0)),
                      ("pair", (2, 0), [OVER, OVER]), ("pair", [OVER, OVER]), ("pair", ((2, 0), (8, 1)), [OVER, OVER]),
                      ["pair", (2, 0), (8, 1), [OVER, OVER]], ("pairs", (2, 0), (8, 1), [OVER, OVER]),
                      (b"pair", (2, 0), (8, 1), [OVER, OVER]), (["pair"], (2, 0), (8, 1), [OVER, OVER]),
                      (None, (2, 0), (8, 1), [OVER, OVER]), (1, (2, 0), (8, 1), [OVER, OVER]),
                      ("pair", [2, 0], (8, 1), [OVER, OVER]), ("pair", (2, 0), [8, 1], [OVER, OVER]),
                      ("pair", (2, 0, 0), (8, 1), [OVER, OVER]), ("pair", (2, 0), (8,), [OVER, OVER]),
                      ("pair", (2, 0), (8, 1), (OVER, OVER)), ("pair", (2, 0), (8, 1), {0: OVER, 1: OVER}),
                      ("pair", (2, 0), (8, 1), None), ("pair", (2, 0), (8, 1), "ab"), ("pair", (2, 0), (8, 1), 2),
                      ("pair", (2, 0), (8, 1), Points([(2, 0), (8, 1)])), ("pair", (2, 0), (8, 1), [["over"], OVER])]:
            self.none(thing)

    def test_other_things_than_points(self):
        for thing in NO_KEYS:
            self.none(("pair", thing, (8, 1), [OVER, OVER]))
            self.none(("pair", (2, 0), thing, [OVER, OVER]))
            self.none(("pair", (thing, 0), (8, 1), [OVER, OVER]))
            self.none(("pair", (2, thing), (8, 1), [OVER, OVER]))
            self.none(("pair", (2, 0), (thing, 1), [OVER, OVER]))
            self.none(("pair", (2, 0), (8, thing), [OVER, OVER]))

    def test_true_and_false_are_no_numbers(self):
        self.assertIs(lets_case([0, 1], 2, ("pair", (0, 0), (1, 1), [OVER, OVER])), True)
        for one, other in (((False, 0), (1, 1)), ((0, False), (1, 1)), ((0, 0), (True, 1)), ((0, 0), (1, True))):
            self.assertIs(lets_case([0, 1], 2, ("pair", one, other, [OVER, OVER])), False)

    def test_nested_far_deeper_than_a_case_may_be(self):
        deep, wide, lists, other = OVER, OVER, [], ()
        for number in range(100000):
            deep = ("pair", (2, 0), (8, 1), [deep, OVER])
            wide = ("pair", (2, 0), (8, 1), [wide, wide])
            lists, other = [lists], (other,)
        for thing in (deep, wide, lists, other, (deep,), [deep], ("over", deep), ("pair", deep, deep, [deep])):
            self.none(thing)
        loop = []
        thing = ("pair", (2, 0), (8, 1), loop)
        loop += [thing, thing]
        self.none(thing)
        loop[0] = OVER
        self.none(thing)

    def test_as_deep_as_there_are_points(self):
        asks = random.Random(1).sample(range(31), 31)
        for many, wanted in ((100, True), (200, True), (201, False)):
            points, steps = list(zip(asks, range(31))), []
            while len(points) < many:
                # Great boxes leave room for many more points.
                one, other = max(bare_pairs(Points(points)), key=lambda pair: (area(*pair), pair))
                found = open_ones(asks, [], one, other)
                steps.append((one, other, len(found) - 1))
                points.append(found[0])
            case = OVER
            for one, other, rest in reversed(steps):
                case = ("pair", one, other, [case] + [OVER] * rest)
            self.assertIs(lets_case(asks, 0, case), wanted)
            self.assertIs(lets_case(asks, 40, case), False)

    def test_no_asks_goes_ahead(self):
        for asks, number in WRONG_ASKS:
            for thing in (OVER, self.good, None, 5, [], ring()):
                for ask in (lambda: lets_case(asks, 0, thing), lambda: lets_case(thing=thing, most=60, asks=asks)):
                    with self.assertRaises(NoAsks) as caught:
                        ask()
                    self.assertEqual(caught.exception.number, number)
                    self.assertIsInstance(caught.exception, PointError)


class AllOfThem(unittest.TestCase):
    def test_held_against_the_words(self):
        source = random.Random(52)
        seen = {True: 0, False: 0}
        for asks in list(short_asks(3, 3)) + list(short_asks(4, 2)) + list(short_asks(4, 3)) + list(short_asks(5, 3)):
            for most in range(len(asks) - 1, len(asks) + 5):
                case = drawn_case(source, asks, most)
                if case is None:
                    continue
                self.assertIs(lets_case(asks, most, case), True, (asks, most, case))
                for time in range(6):
                    wrong = changed_case(source, case)
                    wanted = let_by(asks, most, wrong)
                    seen[wanted] += 1
                    self.assertIs(lets_case(asks, most, wrong), wanted, (asks, most, wrong))
        self.assertGreater(min(seen.values()), 40)

    def test_no_set_has_so_few_points(self):
        # Keys asked are 1 and 3, or 0, 2 and 3, of a grid with keys between them, and a row behind the asks.
        source = random.Random(53)
        for wide, high, keys in ((4, 4, (1, 3)), (4, 4, (0, 2, 3)), (3, 5, (0, 1, 2)), (3, 5, (0, 2))):
            masks = filled_masks(wide, high)
            for asks in itertools.product(keys, repeat=high - 1):
                fewest = fewest_points(masks, wide, asks)
                for most in range(fewest + 2):
                    case = drawn_case(source, list(asks), most)
                    if case is not None:
                        self.assertIs(lets_case(list(asks), most, case), True)
                        self.assertLess(most, fewest)
                        # One that is let by for most is one for all that is less, and for nothing as great as sets are.
                        self.assertIs(lets_case(list(asks), fewest, case), False)
                        self.assertIs(lets_case(list(asks), max(most - 1, 0), case), True)


class NothingKept(unittest.TestCase):
    def test_nothing_handed_in_is_changed(self):
        asks = [0, 9, 5]
        good = ("pair", (0, 0), (5, 2), [("pair", (5, 0), (9, 1), [OVER, OVER]), OVER, OVER, OVER])
        for thing, wanted in ((good, True), (("pair", (0, 0), (5, 2), [OVER]), False), ([[OVER]], False)):
            ahead = copy.deepcopy(thing)
            for time in range(3):
                self.assertIs(lets_case(asks, 3, thing), wanted)
            self.assertEqual(thing, ahead)
        self.assertEqual(asks, [0, 9, 5])

    def test_what_is_done_behind_the_call(self):
        asks, cases = [2, 8], [OVER, OVER]
        self.assertIs(lets_case(asks, 2, ("pair", (2, 0), (8, 1), cases)), True)
        cases.pop()
        self.assertIs(lets_case(asks, 2, ("pair", (2, 0), (8, 1), cases)), False)
        cases.append(OVER)
        self.assertIs(lets_case(asks, 2, ("pair", (2, 0), (8, 1), cases)), True)
        asks[0] = 3
        self.assertIs(lets_case(asks, 2, ("pair", (2, 0), (8, 1), cases)), False)


if __name__ == "__main__":
    unittest.main()
