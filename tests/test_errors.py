"""The interface's thirdpoint/errors.py: where each class stands, and what it keeps."""

import unittest

from thirdpoint import errors

UNDER_POINT_ERROR = ("NoPoints", "NoBox", "NoAsks", "NoRun", "NoText", "NoTurn",
                     "NoTree", "NoTop", "NotServed", "NoRow")
BESIDE_POINT_ERROR = (("NoPoint", KeyError), ("NoName", KeyError), ("NoKey", LookupError),
                      ("NoBack", IndexError), ("TooMany", OverflowError))
ONE_VALUE = (("NoPoints", "number"), ("NoAsks", "number"), ("NoRun", "moment"), ("NoText", "row"),
             ("NoTurn", "last"), ("NoPoint", "point"), ("NoName", "name"), ("NoKey", "key"),
             ("TooMany", "many"))
OF_A_TEXT = ("NoTree", "NoTop", "NotServed", "NoRow", "NoBack")


def some_things():
    """Things of many kinds, made anew."""
    endless = []
    endless.append(endless)
    return [None, True, False, 0, 31, -1, 10 ** 59, "", "a\n", b"a", (), (1, (2, [3])), [], [1, [2]],
            endless, {"a": [1]}, object(), 0.5, ValueError("x")]


class WhereTheyStand(unittest.TestCase):
    def test_point_error_is_a_value_error(self):
        self.assertEqual(errors.PointError.__bases__, (ValueError,))

    def test_ten_stand_straight_under_point_error(self):
        self.assertEqual(len(set(UNDER_POINT_ERROR)), 10)
        for name in UNDER_POINT_ERROR:
            with self.subTest(name):
                self.assertEqual(getattr(errors, name).__bases__, (errors.PointError,))

    def test_five_stand_beside_it(self):
        for name, base in BESIDE_POINT_ERROR:
            with self.subTest(name):
                self.assertEqual(getattr(errors, name).__bases__, (base,))
                self.assertFalse(issubclass(getattr(errors, name), errors.PointError))

    def test_no_key_is_neither_key_error_nor_index_error(self):
        self.assertFalse(issubclass(errors.NoKey, (KeyError, IndexError)))

    def test_none_stands_under_another_one(self):
        names = UNDER_POINT_ERROR + tuple(name for name, base in BESIDE_POINT_ERROR)
        for name in names:
            for other in names:
                if name != other:
                    self.assertFalse(issubclass(getattr(errors, name), getattr(errors, other)), (name, other))


class WhatTheyKeep(unittest.TestCase):
    def test_one_value_by_place(self):
        for name, value in ONE_VALUE:
            for thing in some_things():
                with self.subTest(name):
                    self.assertIs(getattr(getattr(errors, name)(thing), value), thing)

    def test_one_value_by_name(self):
        for name, value in ONE_VALUE:
            for thing in some_things():
                with self.subTest(name):
                    self.assertIs(getattr(getattr(errors, name)(**{value: thing}), value), thing)

    def test_no_box_keeps_both(self):
        for one in some_things():
            for other in some_things():
                for made in (errors.NoBox(one, other), errors.NoBox(other=other, one=one)):
                    self.assertIs(made.one, one)
                    self.assertIs(made.other, other)

    def test_of_lists_that_change_the_very_list_is_kept(self):
        handed = [1]
        made = errors.NoPoint(handed)
        handed.append(2)
        self.assertEqual(made.point, [1, 2])

    def test_what_is_made_of_a_text(self):
        for name in OF_A_TEXT:
            with self.subTest(name):
                self.assertEqual(str(getattr(errors, name)("some words")), "some words")

    def test_they_are_raised_and_have_words_whatever_they_keep(self):
        for name, value in ONE_VALUE:
            for thing in some_things() + [10 ** 5000]:
                with self.subTest(name):
                    with self.assertRaises(getattr(errors, name)) as caught:
                        raise getattr(errors, name)(thing)
                    self.assertIsInstance(str(caught.exception), str)


if __name__ == "__main__":
    unittest.main()
