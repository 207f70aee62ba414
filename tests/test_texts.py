"""Promises 19 and 2, of thirdpoint.texts."""

import random
import re
import unittest

from drawing import (NO_TREES, ORDERLY_ASKS, WRONG_ASKS, chain, drawn_asks, drawn_runs, drawn_sets, drawn_tree,
                     even_tree, ring)
from thirdpoint.errors import NoAsks, NoText, NoTree, PointError
from thirdpoint.growing import Grower
from thirdpoint.points import Points
from thirdpoint.runs import look_at_run, touched
from thirdpoint.texts import (read_asks, read_points, read_run, read_tree, show_asks, show_points, show_run,
                              show_tree)
from thirdpoint.tops import is_top, turned

NO_TEXTS = [None, True, False, 0, 1, -1, 1.0, b"", b".", b"1", [], ["1"], ["."], (), ("1",), {}, {"1": 1}, {"1"},
            object(), str, Points(), (1, None, None), [3, 5], ring()]
# Figures that are none of ours, and other ways to write a number.
NO_NUMBERS = ["", "00", "01", "007", "-0", "-1", "+1", "31", "32", "99", "100", "1.0", "1e1", "0x1", "1_0", "x", "a1",
              "1a", "\u0663", "\u00b2", "\uff11", "\u0661\u0662", "1\u0660", " ", "1\t", "\t1", "1\r", "None",
              "True", ".", "(", ")", "3" * 70, "1" * 5000, "0" * 5000]
SOME_ASKS = ORDERLY_ASKS + list(drawn_asks(101, 60))
SOME_POINTS = ([Points(points) for asks, points in drawn_sets(102, 60)]
               + [Grower(asks).points() for asks in SOME_ASKS]
               + [Points([(key, moment) for key in range(6) for moment in range(31)]), Points([(30, 30)]),
                  Points([(0, 0)]), Points([(key, 30) for key in range(31)]),
                  Points([(key, key) for key in range(0, 31, 3)])])
SOME_RUNS = list(drawn_runs(103, 60))


def drawn_trees(seed, many):
    """Trees, so many, of all sizes and forms."""
    source = random.Random(seed)
    for number in range(many):
        yield drawn_tree(source, sorted(source.sample(range(31), source.choice([0, 1, 2, 5, 12, 30, 31]))))


SOME_TREES = [None, chain(range(31)), chain(range(30, -1, -1)), even_tree(0, 31), (0, None, None), (30, None, None),
              chain([0, 30, 1, 29, 2, 28, 3])] + list(drawn_trees(104, 60))


class Checked(unittest.TestCase):
    def refused(self, read, text, row):
        for ask in (lambda: read(text), lambda: read(text=text)):
            with self.assertRaises(NoText, msg=repr(text)[:200]) as caught:
                ask()
            self.assertEqual(repr(caught.exception.row), repr(row), repr(text)[:200])
            self.assertIsInstance(caught.exception, PointError)


class NoTexts(Checked):
    def test_what_is_no_text(self):
        for thing in NO_TEXTS:
            for read in (read_tree, read_asks, read_points, read_run):
                self.refused(read, thing, 0)


class Trees(Checked):
    def test_written(self):
        self.assertEqual(show_tree(None), ".")
        self.assertEqual(show_tree((5, None, None)), "(5 . .)")
        self.assertEqual(show_tree((1, (0, None, None), None)), "(1 (0 . .) .)")
        self.assertEqual(show_tree((10, None, (30, None, None))), "(10 . (30 . .))")
        self.assertEqual(show_tree(tree=(4, (2, (0, None, None), (3, None, None)), (6, None, None))),
                         "(4 (2 (0 . .) (3 . .)) (6 . .))")

    def test_read(self):
        self.assertIsNone(read_tree("."))
        self.assertEqual(read_tree("(1 (0 . .) .)"), (1, (0, None, None), None))
        self.assertEqual(read_tree(text="(0 . (30 (29 . .) .))"), (0, None, (30, (29, None, None), None)))

    def test_read_to_the_same(self):
        for tree in SOME_TREES:
            text = show_tree(tree)
            self.assertRegex(text, r"\A[0-9(). ]+\Z")
            self.assertEqual(text, re.sub(r"None", ".", repr(tree)).replace(",", ""))
            self.assertEqual(read_tree(text), tree)
            self.assertEqual(show_tree(read_tree(text)), text)

    def test_no_tree_is_written(self):
        for thing in NO_TREES:
            with self.assertRaises(NoTree):
                show_tree(thing)

    def test_blanks(self):
        for text in (" .", ". ", " (1 . .)", "(1 . .) ", "( 1 . .)", "(1  . .)", "(1 .  .)", "(1 . . )", "(1 ..)",
                     "(1. .)", "(1 . .)  ", "(1\t. .)", "(1 .\t.)", "(1\n. .)", "(1 . .)\n", "\n.", ".\n", ".\t",
                     "(1 (0 . .)  .)", "(1 (0 . .).)", "(1(0 . .) .)", "(1 . .)\r"):
            self.refused(read_tree, text, 0)

    def test_brackets(self):
        for text in ("", "(", ")", "()", "(1", "(1)", "(1 .", "(1 .)", "(1 . .", "1 . .)", "1 . .", "(1 . .))",
                     "((1 . .)", "(1 . . .)", "(1 . .).", ". .", "..", "(. . .)", "((1) . .)", "(1 (0 . .) .",
                     "(1 (0 . . .)", "(1 (0 . .))", "[1 . .]", "(1 . .)(2 . .)", "(1 . .) (2 . .)", "(1, ., .)",
                     "(1 None None)", "1", "-", "(1 0 2)", "(1 - -)", "( . .)", "(1 ) .)", "(1 ( .)"):
            self.refused(read_tree, text, 0)

    def test_other_signs_in_their_places(self):
        # Each sign of the text, taken away, twice, or another one in its stead.
        text = "(7 (0 . .) (30 . .))"
        for at in range(len(text)):
            for sign in ("", text[at] * 2, "x", "[", "-", ",", "\t", "(", ")", " ", "."):
                other = text[:at] + sign + text[at + 1:]
                if other != text and not re.fullmatch(r"\(7 \(0 \. \.\) \(3?0? \. \.\)\)", other):
                    self.refused(read_tree, other, 0)

    def test_numbers(self):
        for word in NO_NUMBERS:
            self.refused(read_tree, f"({word} . .)", 0)
            self.refused(read_tree, f"(5 ({word} . .) .)", 0)
            self.refused(read_tree, f"(5 . ({word} . .))", 0)
        for key in range(31):
            self.assertEqual(read_tree(f"({key} . .)"), (key, None, None))

    def test_order(self):
        for text in ("(1 (2 . .) .)", "(1 . (0 . .))", "(1 (1 . .) .)", "(1 . (1 . .))", "(5 (3 . (6 . .)) .)",
                     "(5 (3 . (5 . .)) .)", "(5 . (8 (4 . .) .))", "(5 . (8 (5 . .) .))", "(5 (3 (1 . (3 . .)) .) .)",
                     "(5 . (31 . .))"):
            self.refused(read_tree, text, 0)

    def test_nested_far_deeper(self):
        for text in ("(" * 5000, "(1 " * 1900, "(1 " * 800 + "." + " .)" * 800, "(5 (4 " * 900, "(1 . " * 1100,
                     "." * 5000, ")" * 5000, " " * 5000, "(1 " + "." * 5000):
            self.refused(read_tree, text, 0)
        # 32 keys, the last one of them beyond all.
        text = "."
        for key in range(31, -1, -1):
            text = f"({key} . {text})"
        self.refused(read_tree, text, 0)


class Asks(Checked):
    def test_written_and_read(self):
        self.assertEqual(show_asks([3]), "3")
        self.assertEqual(show_asks(asks=[10, 0, 30]), "10 0 30")
        self.assertEqual(read_asks("10 0 30"), [10, 0, 30])
        self.assertEqual(read_asks(text="0"), [0])
        for asks in SOME_ASKS:
            self.assertEqual(show_asks(asks), " ".join(map(str, asks)))
            self.assertEqual(read_asks(show_asks(asks)), asks)

    def test_no_asks_are_written(self):
        for asks, number in WRONG_ASKS:
            with self.assertRaises(NoAsks) as caught:
                show_asks(asks)
            self.assertEqual(caught.exception.number, number)

    def test_other_texts(self):
        for text in ("", " ", "  ", " 1", "1 ", "1  2", "1\t2", "1\n2", "1\n", "\n", "-", "1 -", "- 1", "1,2",
                     "[1, 2]", ".", "1 2 ", " 1 2", "1 2  3", "1 2\n", "\t1", "1;2"):
            self.refused(read_asks, text, 0)
        for word in NO_NUMBERS:
            self.refused(read_asks, word, 0)
            self.refused(read_asks, f"{word} 1", 0)
            self.refused(read_asks, f"3 {word}", 0)
            self.refused(read_asks, f"3 {word} 0", 0)

    def test_how_many(self):
        self.assertEqual(read_asks(" ".join(["5"] * 31)), [5] * 31)
        self.assertEqual(len(read_asks(" ".join(map(str, range(31))))), 31)
        for many in (32, 33, 1000):
            self.refused(read_asks, " ".join(["5"] * many), 0)


class SetsOfPoints(Checked):
    def test_written(self):
        self.assertEqual(show_points(Points()), "")
        self.assertEqual(show_points(Points([(3, 0)])), "3")
        self.assertEqual(show_points(Points([(10, 2), (3, 0), (2, 2)])), "3\n-\n2 10")
        self.assertEqual(show_points(points=Points([(0, 3)])), "-\n-\n-\n0")
        self.assertEqual(show_points(Points([(0, 30)])), "-\n" * 30 + "0")

    def test_read(self):
        self.assertEqual(read_points(""), Points())
        self.assertEqual(read_points("3"), Points([(3, 0)]))
        self.assertEqual(read_points(text="3\n-\n2 10"), Points([(10, 2), (3, 0), (2, 2)]))
        self.assertEqual(read_points("-\n" * 30 + "0 30"), Points([(0, 30), (30, 30)]))

    def test_read_to_the_same(self):
        for points in SOME_POINTS + [Points()]:
            text = show_points(points)
            self.assertEqual(read_points(text), points)
            self.assertEqual(show_points(read_points(text)), text)
            rows = text.split("\n")
            self.assertNotEqual(rows[-1], "-")
            if len(points):
                self.assertEqual(len(rows), max(moment for key, moment in points.points()) + 1)

    def test_rows_that_are_none(self):
        wrong = ["", " ", "--", "- ", " -", "-1", "- 1", "1 -", "3 3", "3 2", "0 5 4", "1  2", " 1", "1 ", "1\t2", "31",
                 "0 31", "01", "1 02", ".", "a", "1,2", "5 5 5", "30 0"] + [word for word in NO_NUMBERS if word]
        good = ["3", "-", "0 1 2", "30", "-"]
        for row in wrong:
            for number in range(6):
                for behind in ([], ["3"], ["x", ""], ["-"]):
                    rows = good[:number] + [row] + behind
                    if rows != [""]:
                        self.refused(read_points, "\n".join(rows), number)

    def test_a_row_without_signs(self):
        self.refused(read_points, "\n", 0)
        self.refused(read_points, "\n3", 0)
        self.refused(read_points, "3\n", 1)
        self.refused(read_points, "3\n\n3", 1)
        self.refused(read_points, "-\n", 1)
        self.refused(read_points, "3\n3\n", 2)
        self.refused(read_points, "\n" * 100, 0)

    def test_only_rows_lack_at_the_end(self):
        for many in range(1, 31):
            self.refused(read_points, "\n".join(["-"] * many), many)
            self.refused(read_points, "\n".join(["3"] * (many - 1) + ["-"]), many)
        self.refused(read_points, "3\n-\n-", 3)

    def test_a_row_behind_31_of_them(self):
        rows = ["3"] * 31
        self.assertEqual(len(read_points("\n".join(rows))), 31)
        for row in ("3", "-", "", "x", "0 1"):
            self.refused(read_points, "\n".join(rows + [row]), 31)
            self.refused(read_points, "\n".join(rows + [row, "3", "x"]), 31)
        # Behind a 31st row without keys none can come: no text begins so.
        self.refused(read_points, "\n".join(["3"] * 30 + ["-"]), 30)
        self.refused(read_points, "\n".join(["3"] * 30 + ["-", "3"]), 30)
        self.refused(read_points, "\n".join(["-"] * 31), 30)
        self.assertEqual(len(read_points("\n".join(["-"] * 30 + ["3"]))), 1)

    def test_more_than_200_points(self):
        twenty = " ".join(map(str, range(20)))
        rows = [twenty] * 10
        self.assertEqual(len(read_points("\n".join(rows))), 200)
        self.refused(read_points, "\n".join(rows + ["0"]), 10)
        self.refused(read_points, "\n".join(rows + ["0", "x"]), 10)
        self.refused(read_points, "\n".join(rows[1:] + [twenty + " 20"]), 9)
        # With 200 points no row with keys can come any more, so none without keys either.
        self.refused(read_points, "\n".join(rows + ["-"]), 10)
        self.refused(read_points, "\n".join(rows + ["-", "0"]), 10)
        less = rows[:9] + [" ".join(map(str, range(19)))]
        self.refused(read_points, "\n".join(less + ["-"]), 11)
        self.assertEqual(len(read_points("\n".join(less + ["-", "0"]))), 200)
        self.refused(read_points, "\n".join(less + ["-", "0 1"]), 11)
        self.refused(read_points, "\n".join(less + ["0", "-"]), 11)

    def test_drawn_ones_with_a_wrong_row(self):
        source = random.Random(105)
        for points in SOME_POINTS:
            rows = show_points(points).split("\n")
            at = source.randrange(len(rows))
            for wrong in ("x", "5 5", "31", " 3", "7 6", "-1"):
                self.refused(read_points, "\n".join(rows[:at] + [wrong] + rows[at + 1:]), at)


class Runs(Checked):
    tree = (1, (0, None, None), (2, None, None))

    def test_written(self):
        self.assertEqual(show_run((self.tree, [(0, None, (1, None, None)), (0, None, None)])),
                         "(1 (0 . .) (2 . .))\n(0 . (1 . .))\n(0 . .)")
        self.assertEqual(show_run(run=((5, None, None), [(5, None, None)])), "(5 . .)\n(5 . .)")

    def test_read(self):
        self.assertEqual(read_run("(1 (0 . .) (2 . .))\n(0 . (1 . .))\n(0 . .)"),
                         (self.tree, [(0, None, (1, None, None)), (0, None, None)]))
        self.assertEqual(read_run(text="(5 . .)\n(5 . .)"), ((5, None, None), [(5, None, None)]))

    def test_read_to_the_same(self):
        for asks, run in SOME_RUNS + [(asks, Grower(asks).run()) for asks in SOME_ASKS]:
            text = show_run(run)
            self.assertEqual(text.split("\n"), [show_tree(tree) for tree in [run[0]] + run[1]])
            self.assertEqual(read_run(text), run)
            self.assertIsNone(look_at_run(asks, read_run(text)))
            self.assertEqual(show_run(read_run(text)), text)

    def test_the_tree_in_row_0(self):
        for row in ("", ".", "x", "(1 . .", "(1 . .) ", "(1 (1 . .) .)", "(31 . .)", "-", "1", "(01 . .)"):
            self.refused(read_run, row, 0)
            self.refused(read_run, row + "\n(1 . .)", 0)
            self.refused(read_run, row + "\n", 0)
        self.refused(read_run, "\n(1 . .)", 0)

    def test_without_a_top(self):
        for tree in SOME_TREES:
            self.refused(read_run, show_tree(tree), 0 if tree is None else 1)

    def test_what_is_no_top(self):
        ahead = "(1 (0 . .) (2 . .))\n(0 . (1 . .))"
        # The tree is (0 . (1 . (2 . .))) by then.
        for row in ("", ".", "x", "(1 . .)", "(2 . .)", "(1 (0 . .) (2 . .)", "(0 . .) ", "(3 . .)", "(2 (0 . .) .)",
                    "(0 . (2 . .))", "(1 . (2 . .))", "-", "(0 . .", "((0 . .) . .)"):
            self.refused(read_run, f"{ahead}\n{row}", 2)
            self.refused(read_run, f"{ahead}\n{row}\n(0 . .)", 2)
            self.refused(read_run, f"{ahead}\n{row}\nx", 2)
        for row in ("(0 . .)", "(1 (0 . .) .)", "(2 (1 (0 . .) .) .)"):
            self.assertEqual(len(read_run(f"{ahead}\n{row}")[1]), 2)
        self.refused(read_run, ahead + "\n", 2)
        self.refused(read_run, ahead + "\n\n(0 . .)", 2)

    def test_31_tops_and_one_too_many(self):
        row = "(5 . .)"
        self.assertEqual(read_run("\n".join([row] * 32)), ((5, None, None), [(5, None, None)] * 31))
        for wrong in (row, "x", "", "."):
            self.refused(read_run, "\n".join([row] * 32 + [wrong]), 32)
            self.refused(read_run, "\n".join([row] * 32 + [wrong, row]), 32)

    def test_drawn_ones_with_a_wrong_row(self):
        source = random.Random(106)
        for asks, run in SOME_RUNS:
            rows = show_run(run).split("\n")
            at = source.randrange(len(rows))
            for wrong in ("", ".", "x", rows[at] + " ", rows[at] + ")", "(31 . .)"):
                self.refused(read_run, "\n".join(rows[:at] + [wrong] + rows[at + 1:]), at)
            self.first_wrong(rows[:at] + [source.choice(rows)] + rows[at + 1:])

    def first_wrong(self, rows):
        """Reads rows that each are a tree, and looks for the first that is no top of the tree as it is then."""
        trees = [read_tree(row) for row in rows]
        tree = trees[0]
        for number, top in enumerate(trees[1:], start=1):
            if not is_top(tree, top):
                self.refused(read_run, "\n".join(rows), number)
                return
            tree = turned(tree, top)
        self.assertEqual(read_run("\n".join(rows)), (trees[0], trees[1:]))

    def test_more_points_than_200(self):
        # A run itself may touch more than 200 points.
        row = show_tree(even_tree(0, 14))
        run = read_run("\n".join([row] * 16))
        self.assertEqual(len(run[1]), 15)
        self.assertEqual(show_run(run), "\n".join([row] * 16))


class NothingKept(unittest.TestCase):
    def test_every_list_is_a_new_one(self):
        first = read_asks("3 5")
        first.clear()
        self.assertEqual(read_asks("3 5"), [3, 5])
        text = "(5 . .)\n(5 . .)"
        run = read_run(text)
        run[1].clear()
        self.assertEqual(read_run(text), ((5, None, None), [(5, None, None)]))

    def test_nothing_handed_in_is_changed(self):
        asks, tops = [3, 5], [(5, None, None)]
        for time in range(2):
            self.assertEqual(show_asks(asks), "3 5")
            self.assertEqual(show_run(((5, None, None), tops)), "(5 . .)\n(5 . .)")
        self.assertEqual((asks, tops), ([3, 5], [(5, None, None)]))

    def test_kinds(self):
        self.assertIsInstance(read_points("3"), Points)
        self.assertIsInstance(read_tree("(3 . .)"), tuple)
        self.assertEqual(touched(read_run("(5 . .)\n(5 . .)")), Points([(5, 0)]))


if __name__ == "__main__":
    unittest.main()
