"""Promises 21 and 2, of thirdpoint.desk."""

import string
import unittest
from unittest import mock

from drawing import drawn_asks, ring
from thirdpoint.desk import Desk
from thirdpoint.errors import NoAsks, NoBack, NoKey, NoName, NoRow, PointError, TooMany
from thirdpoint.fences import floor_of
from thirdpoint.fencing import fences_of
from thirdpoint.growing import Grower
from thirdpoint.leasts import least, served_by
from thirdpoint.points import Points
from thirdpoint.sparing import thinned
from thirdpoint.texts import show_points, show_run

TWENTY = [letter * 2 for letter in string.ascii_lowercase[:20]]
NO_NUMBERS = ["", "01", "00", "-1", "+1", "x", "1.0", "1_0", "-", ".", "\u0663", "\u00b2", "\uff11", "3x", "0x1",
              "1\t", "1\n", "#"]
NO_NAMES = ["", "abcdefghi", "Abc", "aB", "a1", "1", "7", "a-b", "a_b", "a.", "\u00e4", "\u03b1", "a\t", "\ta",
            "a\n", "-", "abcdefghijklmnop", "A", "ABCDEFGH", "{", "`", "a\u0301"]
# Each word that stands ahead of a name, with what else the row has.
NAMED = [("drop", ""), ("ask", " 3"), ("back", ""), ("asks", ""), ("points", ""), ("run", ""), ("many", ""),
         ("floor", ""), ("least", ""), ("within", " 9"), ("thin", "")]


def state(desk):
    """All that a desk keeps: names, asks and points."""
    names = desk.say("names")
    return (names, [(desk.say(f"asks {name}"), desk.say(f"points {name}")) for name in names.split(" ") if name != "-"])


class Checked(unittest.TestCase):
    def refused(self, desk, kind, row):
        """Says the row, which is refused and changes nothing; told is the error."""
        for ask in (lambda: desk.say(row), lambda: desk.say(row=row)):
            ahead = state(desk)
            with self.assertRaises(kind, msg=repr(row)) as caught:
                ask()
            self.assertEqual(state(desk), ahead)
        return caught.exception


class Rows(unittest.TestCase):
    def test_new(self):
        desk = Desk()
        self.assertEqual(desk.say("new a"), "ok")
        self.assertEqual(desk.say("asks a"), "-")
        self.assertEqual(desk.say("new b 7"), "ok")
        self.assertEqual(desk.say("asks b"), "7")
        row = " ".join(map(str, range(31)))
        self.assertEqual(desk.say(row=f"new abcdefgh {row}"), "ok")
        self.assertEqual(desk.say("asks abcdefgh"), row)
        self.assertEqual(desk.say("names"), "a abcdefgh b")

    def test_new_in_the_stead_of_one_there(self):
        desk = Desk()
        desk.say("new a 1 2")
        self.assertEqual(desk.say("new a 3"), "ok")
        self.assertEqual((desk.say("asks a"), desk.say("names")), ("3", "a"))
        desk.say("new a")
        self.assertEqual((desk.say("asks a"), desk.say("names")), ("-", "a"))

    def test_drop(self):
        desk = Desk()
        desk.say("new a 1")
        desk.say("new b 2")
        self.assertEqual(desk.say("drop a"), "ok")
        self.assertEqual(desk.say("names"), "b")
        self.assertEqual(desk.say("asks b"), "2")
        self.assertEqual(desk.say("drop b"), "ok")
        self.assertEqual(desk.say("names"), "-")

    def test_names(self):
        desk = Desk()
        self.assertEqual(desk.say("names"), "-")
        for name in ("zz", "b", "names", "ab", "a", "new"):
            desk.say(f"new {name}")
        self.assertEqual(desk.say("names"), "a ab b names new zz")
        self.assertEqual(desk.say("asks names"), "-")

    def test_ask(self):
        desk = Desk()
        desk.say("new a")
        self.assertEqual(desk.say("ask a 3"), "3")
        self.assertEqual(desk.say("ask a 5"), "3 5")
        self.assertEqual(desk.say("ask a 4"), "3 4 5")
        self.assertEqual(desk.say("ask a 0"), "0 3")
        self.assertEqual(desk.say("asks a"), "3 5 4 0")

    def test_back(self):
        desk = Desk()
        desk.say("new a 3 15")
        self.assertEqual(desk.say("back a"), "15")
        self.assertEqual(desk.say("asks a"), "3")
        self.assertEqual(desk.say("back a"), "3")
        self.assertEqual(desk.say("asks a"), "-")

    def test_points(self):
        desk = Desk()
        desk.say("new a")
        self.assertEqual(desk.say("points a"), "-")
        desk.say("ask a 3")
        self.assertEqual(desk.say("points a"), "3")
        desk.say("ask a 5")
        self.assertEqual(desk.say("points a"), "3; 3 5")

    def test_run(self):
        desk = Desk()
        desk.say("new a 3 5 4")
        self.assertEqual(desk.say("run a"), "(3 . (5 (4 . .) .)); (3 . .); (3 . (5 . .)); (3 . (4 . (5 . .)))")

    def test_numbers(self):
        desk = Desk()
        desk.say("new a 3 5 4")
        self.assertEqual(desk.say("many a"), "6")
        self.assertEqual(desk.say("floor a"), "5")
        self.assertEqual(desk.say("least a"), "5")
        self.assertEqual(desk.say("thin a"), "6")
        self.assertEqual([desk.say(f"within a {most}") for most in (0, 4, 5, 6, 60)], ["no", "no", "yes", "yes", "yes"])
        desk.say("new b")
        self.assertEqual(desk.say("many b"), "0")

    def test_drawn_asks(self):
        desk = Desk()
        for asks in drawn_asks(121, 40):
            grower = Grower(asks)
            self.assertEqual(desk.say("new a " + " ".join(map(str, asks))), "ok")
            self.assertEqual(desk.say("asks a"), " ".join(map(str, asks)))
            self.assertEqual(desk.say("points a"), show_points(grower.points()).replace("\n", "; "))
            self.assertEqual(desk.say("run a"), show_run(grower.run()).replace("\n", "; "))
            self.assertEqual(desk.say("many a"), str(len(grower.points())))
            self.assertEqual(desk.say("floor a"), str(floor_of(asks, fences_of(asks))))
            self.assertEqual(desk.say("thin a"), str(len(thinned(asks, grower.points()))))
            if len(asks) <= 6 and len(set(asks)) <= 4:
                self.assertEqual(desk.say("least a"), str(least(asks)[0]))
                for most in range(61):
                    wanted = {"served": "yes", "none": "no"}[served_by(asks, most)[0]]
                    self.assertEqual(desk.say(f"within a {most}"), wanted)
            self.assertEqual(desk.say("back a"), str(asks[-1]))
            if len(asks) > 1:
                self.assertEqual(desk.say(f"ask a {asks[-1]}"), " ".join(map(str, Grower(asks[:-1]).ask(asks[-1]))))

    def test_what_is_asked_changes_nothing(self):
        desk = Desk()
        desk.say("new a 3 5 4")
        desk.say("new b")
        ahead = state(desk)
        for word, rest in NAMED:
            if word not in ("drop", "ask", "back"):
                first = desk.say(f"{word} a{rest}")
                self.assertEqual(desk.say(f"{word} a{rest}"), first)
                self.assertIsInstance(first, str)
        self.assertEqual(state(desk), ahead)


class NoRows(Checked):
    def setUp(self):
        self.desk = Desk()
        self.desk.say("new a 3 5")

    def none(self, row):
        self.assertIsInstance(self.refused(self.desk, NoRow, row), PointError)

    def test_what_is_no_text(self):
        for thing in (None, True, False, 0, 5, 1.0, b"names", b"", ["names"], ("names",), [], {}, {"names": 1},
                      object(), Points(), Desk(), ring(), str):
            self.none(thing)

    def test_words_that_are_none(self):
        for row in ("", " ", "  ", "x", "name", "Names", "NAMES", "names2", "namesa", "a", "a a", "says a",
                    "Ask a 3", "NEW a", "new", "drop", "list", "say names", "help", "points", "run", "-", "new;a",
                    "put a 3", "kept a", "3", "a 3", "askss a", "within", "ask", "\u00e4 a"):
            self.none(row)

    def test_line_feeds(self):
        for row in ("\n", "names\n", "\nnames", "names\nnames", "asks a\n", "\nasks a", "asks\na", "ask a 3\n",
                    "ask a\n3", "new b\n", "new b 3\n", "new b 3\n4", "names\r", "names\t", "asks\ta", "asks a\t",
                    "within a 5\n"):
            self.none(row)

    def test_blanks(self):
        for row in (" names", "names ", "names  ", " asks a", "asks a ", "asks  a", "ask a  3", "ask  a 3", "ask a 3 ",
                    " ask a 3", "new b ", "new b  3", "new b 3 ", "new b 3  4", "new  b", " new b", "within a 5 ",
                    "within a  5", "drop a ", "new  "):
            self.none(row)

    def test_a_word_too_few_or_too_many(self):
        for word, rest in NAMED:
            self.none(word)
            self.none(f"{word} a{rest} 3")
            self.none(f"{word} a{rest} a")
            self.none(f"{word} a b{rest}")
            self.none(f"{word}{rest}")
        for row in ("ask a", "within a", "ask 3", "within 5", "names a", "names names", "names 3", "drop a a",
                    "drop a 3", "ask a 3 4", "within a 5 6"):
            self.none(row)

    def test_names_that_are_none(self):
        for name in NO_NAMES:
            for word, rest in NAMED + [("new", ""), ("new", " 3")]:
                self.none(f"{word} {name}{rest}")
        for name in ("a", "z", "abcdefgh", "zzzzzzzz"):
            self.assertEqual(self.desk.say(f"new {name} 3"), "ok")

    def test_numbers_that_are_none(self):
        for word in NO_NUMBERS:
            for row in ("ask a {}", "within a {}", "new b {}", "new a {}", "new b 3 {}", "new b {} 3"):
                self.none(row.replace("{}", word))

    def test_a_most_above_60(self):
        for most in (61, 62, 100, 600, 10 ** 59):
            self.none(f"within a {most}")
            self.none(f"within b {most}")
        self.none("within a " + "6" * 5000)
        for most in (0, 59, 60):
            self.assertIn(self.desk.say(f"within a {most}"), ("yes", "no"))

    def test_ahead_of_all_else(self):
        # Nothing is kept by b, and 31 is no key.
        for row in ("drop b 3", "ask b", "ask b x", "within b 61", "within b x", "ask b 31 31", "new b 31 x",
                    "asks b "):
            self.none(row)


class Refused(Checked):
    def test_no_name(self):
        desk = Desk()
        for kept in ("", "new a", "new ab 3"):
            if kept:
                desk.say(kept)
            for word, rest in NAMED:
                for name in ("b", "zzzzzzzz", "aa", "names"):
                    error = self.refused(desk, NoName, f"{word} {name}{rest}")
                    self.assertEqual(error.name, name)
                    self.assertIsInstance(error, KeyError)
                    self.assertNotIsInstance(error, PointError)
        desk.say("drop a")
        self.assertEqual(self.refused(desk, NoName, "asks a").name, "a")

    def test_no_name_goes_ahead_of_what_the_points_refuse(self):
        desk = Desk()
        self.assertEqual(self.refused(desk, NoName, "ask b 31").name, "b")
        self.assertEqual(self.refused(desk, NoName, "back b").name, "b")

    def test_new_with_wrong_keys(self):
        desk = Desk()
        desk.say("new a 3 5")
        for name in ("a", "b"):
            self.assertIsNone(self.refused(desk, NoAsks, f"new {name}" + " 3" * 32).number)
            self.assertIsNone(self.refused(desk, NoAsks, f"new {name}" + " 31" * 32).number)
            self.assertEqual(self.refused(desk, NoAsks, f"new {name} 31").number, 0)
            self.assertEqual(self.refused(desk, NoAsks, f"new {name} 3 4 31 99").number, 2)
            self.assertEqual(self.refused(desk, NoAsks, f"new {name} 3 " + "9" * 59).number, 1)
        self.assertEqual(desk.say("asks a"), "3 5")

    def test_no_key(self):
        desk = Desk()
        desk.say("new a 3 5")
        for key in (31, 32, 99, 10 ** 59, 10 ** 4999):
            word = "1" + "0" * 4999 if key == 10 ** 4999 else str(key)
            error = self.refused(desk, NoKey, f"ask a {word}")
            self.assertEqual(error.key, key)

    def test_too_many(self):
        desk = Desk()
        desk.say("new a" + " 3" * 31)
        self.assertEqual(self.refused(desk, TooMany, "ask a 3").many, 32)
        self.assertEqual(self.refused(desk, NoKey, "ask a 31").key, 31)
        self.assertEqual(self.refused(desk, TooMany, "least a").many, 31)
        desk.say("new b 0 1 2 3 4")
        self.assertEqual(self.refused(desk, TooMany, "least b").many, 5)

    def test_within_is_refused_where_that_is(self):
        desk = Desk()
        asks = [(7 * moment) % 31 for moment in range(31)]
        desk.say("new a " + " ".join(map(str, asks)))
        with self.assertRaises(TooMany):
            served_by(asks, 60)
        self.assertEqual(self.refused(desk, TooMany, "within a 60").many, 400)
        self.assertEqual(desk.say("within a 30"), "no")

    @mock.patch("thirdpoint.growing.MOST_POINTS", 61)
    def test_more_points_than_may_be(self):
        desk = Desk()
        row = " ".join(map(str, range(30)))
        desk.say(f"new a {row}")
        self.assertEqual(self.refused(desk, TooMany, "ask a 15").many, 73)
        self.assertEqual(self.refused(desk, TooMany, f"new b {row} 15").many, 73)
        self.assertEqual(self.refused(desk, TooMany, f"new a {row} 15").many, 73)

    def test_no_back(self):
        desk = Desk()
        desk.say("new a")
        self.refused(desk, NoBack, "back a")
        desk.say("ask a 3")
        desk.say("back a")
        self.refused(desk, NoBack, "back a")

    def test_no_asks(self):
        desk = Desk()
        desk.say("new a")
        rows = ("run a", "floor a", "least a", "within a 0", "within a 60", "thin a")
        for row in rows:
            self.assertIsNone(self.refused(desk, NoAsks, row).number)
        desk.say("ask a 3")
        self.assertEqual([desk.say(row) for row in rows],
                         ["(3 . .); (3 . .)", "1", "1", "no", "yes", "1"])

    def test_a_twenty_first_name(self):
        desk = Desk()
        for name in TWENTY:
            self.assertEqual(desk.say(f"new {name} 3"), "ok")
        self.assertEqual(desk.say("names"), " ".join(TWENTY))
        for row in ("new b", "new b 3", "new zzzzzzzz 1 2 3"):
            self.assertEqual(self.refused(desk, TooMany, row).many, 21)
        # What the points refuse goes ahead, and in the stead of one there may always be put another.
        self.assertEqual(self.refused(desk, NoAsks, "new b 3 31").number, 1)
        self.assertIsNone(self.refused(desk, NoAsks, "new b" + " 3" * 32).number)
        self.assertEqual(desk.say("new aa 7 8"), "ok")
        self.assertEqual(desk.say("asks aa"), "7 8")
        desk.say("drop cc")
        self.assertEqual(desk.say("new b"), "ok")
        self.assertEqual(self.refused(desk, TooMany, "new cc").many, 21)


class Apart(unittest.TestCase):
    def test_two_desks_know_nothing_of_one_another(self):
        one, other = Desk(), Desk()
        one.say("new a 3")
        self.assertEqual(other.say("names"), "-")
        other.say("new a 5")
        one.say("ask a 4")
        self.assertEqual((one.say("asks a"), other.say("asks a")), ("3 4", "5"))
        one.say("drop a")
        self.assertEqual(other.say("names"), "a")

    def test_two_names_know_nothing_of_one_another(self):
        desk = Desk()
        desk.say("new a 3")
        desk.say("new b 3")
        desk.say("ask a 5")
        self.assertEqual((desk.say("asks a"), desk.say("asks b")), ("3 5", "3"))


if __name__ == "__main__":
    unittest.main()
