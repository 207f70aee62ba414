"""Promises 2 and 3, over the whole program, and the interface's names."""

import importlib
import inspect
import random
import unittest

from drawing import drawn_asks, drawn_runs, drawn_sets, short_asks
from thirdpoint.asks import points_of, serves
from thirdpoint.boxes import bare_pairs, is_filled
from thirdpoint.cases import lets_case
from thirdpoint.desk import Desk
from thirdpoint.errors import TooMany
from thirdpoint.fences import are_fences, floor_of
from thirdpoint.fencing import fences_of
from thirdpoint.growing import Grower
from thirdpoint.laying import laid, laid_asks, seam
from thirdpoint.leasts import least, served_by
from thirdpoint.points import Points
from thirdpoint.runs import look_at_run, touched, trees_of
from thirdpoint.sparing import need_of, thinned
from thirdpoint.texts import read_asks, read_points, read_run, read_tree, show_asks, show_points, show_run, show_tree
from thirdpoint.turner import Turner
from thirdpoint.turning import backward, backward_asks, mirrored, mirrored_asks
from thirdpoint.walking import run_of

# Asks with Points that serve them: drawn sets, what drawn runs touch, grown ones, least ones.
SERVED = ([(asks, Points(points)) for asks, points in drawn_sets(131, 40)]
          + [(asks, touched(run)) for asks, run in drawn_runs(132, 40)]
          + [(asks, Grower(asks).points()) for asks in drawn_asks(133, 30)]
          + [(asks, least(asks)[1]) for asks in list(short_asks(4, 4)) + list(short_asks(6, 3))[::20]])

INTERFACE = {
    "points": {"is_key": "thing", "Points": "points=None", "Points.points": "", "Points.has": "point",
               "Points.keys_at": "moment", "Points.moments_of": "key", "Points.all_keys": "", "Points.all_moments": "",
               "Points.more": "points", "Points.less": "point"},
    "boxes": {"thirds": "points, one, other", "bare_pairs": "points", "is_filled": "points"},
    "asks": {"look_at_asks": "thing", "points_of": "asks", "serves": "asks, points"},
    "trees": {"look_at_tree": "thing", "keys_of": "tree", "depth": "tree", "way_to": "tree, key", "tree_by": "ranks"},
    "tops": {"is_top": "tree, thing", "turned": "tree, top"},
    "runs": {"look_at_run": "asks, thing", "trees_of": "run", "touched": "run"},
    "walking": {"run_of": "asks, points"},
    "growing": {"Grower": "asks=None", "Grower.ask": "key", "Grower.back": "", "Grower.asks": "", "Grower.points": "",
                "Grower.run": "", "Grower.twin": ""},
    "fences": {"are_fences": "asks, thing", "floor_of": "asks, fences"},
    "fencing": {"fences_of": "asks"},
    "cases": {"lets_case": "asks, most, thing"},
    "leasts": {"least": "asks", "served_by": "asks, most"},
    "sparing": {"need_of": "asks, points, point", "thinned": "asks, points"},
    "turning": {"mirrored_asks": "asks, last=30", "backward_asks": "asks", "mirrored": "points, last=30",
                "backward": "points, last=30"},
    "laying": {"laid_asks": "asks, others", "laid": "asks, points, others, more", "seam": "asks, points, others, more"},
    "texts": {"show_tree": "tree", "show_asks": "asks", "show_points": "points", "show_run": "run", "read_tree": "text",
              "read_asks": "text", "read_points": "text", "read_run": "text"},
    "turner": {"Turner": "tree", "Turner.ask": "key, top=None", "Turner.back": "", "Turner.tree": "", "Turner.asks": "",
               "Turner.run": "", "Turner.points": "", "Turner.cost": "", "Turner.twin": ""},
    "desk": {"Desk": "", "Desk.say": "row"},
}


class Interface(unittest.TestCase):
    def test_names_and_arguments(self):
        for module, names in INTERFACE.items():
            for name, wanted in names.items():
                thing = importlib.import_module(f"thirdpoint.{module}")
                for part in name.split("."):
                    thing = getattr(thing, part)
                found = str(inspect.signature(thing))[1:-1]
                if "." in name:
                    found = found.removeprefix("self").removeprefix(", ")
                self.assertEqual(found, wanted, (module, name))


class TheWhole(unittest.TestCase):
    def test_a_what_a_run_touches_is_filled_and_holds_the_asks(self):
        for asks, run in drawn_runs(134, 80):
            self.assertIsNone(look_at_run(asks, run))
            self.assertIs(is_filled(touched(run)), True)
            self.assertIs(serves(asks, touched(run)), True)
            self.assertLessEqual(floor_of(asks, fences_of(asks)), len(touched(run)))

    def test_b_each_set_has_a_run_that_touches_just_it(self):
        for asks, points in SERVED:
            run = run_of(asks, points)
            self.assertIsNone(look_at_run(asks, run))
            self.assertEqual(touched(run), points)
            self.assertEqual(read_run(show_run(run)), run)

    def test_b_no_run_touches_fewer_points_than_the_least_set_has(self):
        fewest = {}
        for asks, run in drawn_runs(135, 300):
            if len(asks) <= 6 and len(set(asks)) <= 4:
                many = fewest.setdefault(tuple(asks), least(asks)[0])
                self.assertLessEqual(many, len(touched(run)))
                self.assertEqual(len(touched(run_of(asks, least(asks)[1]))), many)
        self.assertGreater(len(fewest), 30)

    def test_c_grown_sets_are_filled_at_each_moment_by_the_asks_up_to_it(self):
        for asks in drawn_asks(136, 30):
            desk, made, rows = Desk(), Grower(), []
            desk.say("new a")
            for key in asks:
                rows.append(made.ask(key))
                self.assertEqual(desk.say(f"ask a {key}"), " ".join(map(str, rows[-1])))
                self.assertIs(is_filled(made.points()), True)
            whole = Grower(asks).points()
            self.assertEqual([whole.keys_at(moment) for moment in range(len(asks))], rows)

    def test_d_floors(self):
        for asks, points in SERVED:
            fences = fences_of(asks)
            self.assertIs(are_fences(asks, fences), True)
            ups = sum(asks[one] < asks[other] for one, other, gap in fences)
            floor = floor_of(asks, fences)
            self.assertEqual(floor, len(asks) + max(ups, len(fences) - ups))
            self.assertLessEqual(2 * len(asks) + len(fences), 2 * floor)
            self.assertLessEqual(floor, len(thinned(asks, points)))

    def test_e_least_sets(self):
        for asks, points in SERVED:
            for most in (len(points) - 1, floor_of(asks, fences_of(asks)) - 1):
                try:
                    word, found = served_by(asks, min(most, 60))
                except TooMany as refused:
                    self.assertEqual(refused.many, 400)
                    continue
                if word == "served":
                    self.assertIs(serves(asks, found), True)
                    self.assertLessEqual(floor_of(asks, fences_of(asks)), len(found))
                else:
                    self.assertIs(lets_case(asks, min(most, 60), found), True)
                    self.assertIs(lets_case(asks, len(points), found), False)

    def test_f_a_point_may_go_or_a_pair_needs_it(self):
        for asks, points in SERVED:
            left = thinned(asks, points)
            self.assertIs(serves(asks, left), True)
            for point in left.points():
                told = need_of(asks, left, point)
                if told == ("ask",):
                    self.assertIs(points_of(asks).has(point), True)
                else:
                    pairs = bare_pairs(left.less(point))
                    self.assertTrue(told[1:] in pairs or told[:0:-1] in pairs)

    def test_g_turned_about(self):
        for asks, points in SERVED:
            other, last = backward_asks(asks), len(asks) - 1
            self.assertIs(serves(other, backward(points, last)), True)
            self.assertIs(serves(mirrored_asks(asks), mirrored(points)), True)
            self.assertIs(serves(other, thinned(other, backward(points, last))), True)
            self.assertEqual(touched(run_of(mirrored_asks(asks), mirrored(points))), mirrored(points))
            if len(asks) <= 6 and len(set(asks)) <= 4:
                self.assertEqual(least(other)[0], least(asks)[0])
                self.assertEqual(least(mirrored_asks(asks))[0], least(asks)[0])
            # Floors are told of the turned ones, too, and no set of either is below one.
            self.assertLessEqual(floor_of(other, fences_of(other)), len(points))

    def test_g_laid_behind_one_another(self):
        source = random.Random(137)
        seen = 0
        for asks, points in SERVED:
            others, more = source.choice(SERVED)
            if len(asks) + len(others) > 31 or len(points) + len(more) + 31 > 200:
                continue
            seen += 1
            both, whole = laid_asks(asks, others), laid(asks, points, others, more)
            self.assertIs(serves(both, whole), True)
            self.assertEqual(len(whole), len(points) + len(more) + len(seam(asks, points, others, more)))
            self.assertEqual(touched(run_of(both, whole)), whole)
            self.assertLessEqual(floor_of(both, fences_of(both)), len(whole))
        self.assertGreater(seen, 40)

    def test_texts_and_kept_trees(self):
        for asks, points in SERVED:
            self.assertEqual(read_asks(show_asks(asks)), asks)
            self.assertEqual(read_points(show_points(points)), points)
            run = run_of(asks, points)
            made = Turner(run[0])
            for key, top in zip(asks, run[1]):
                self.assertEqual(read_tree(show_tree(top)), top)
                made.ask(key, top)
            self.assertEqual((made.points(), made.cost(), made.run()), (points, len(points), run))
            self.assertEqual(made.tree(), trees_of(run)[-1])
            for tree in reversed(trees_of(run)[:-1]):
                made.back()
                self.assertEqual(read_tree(str(made)), tree)


class NothingKept(unittest.TestCase):
    def deeds(self, asks, points, run):
        """All functions that are handed lists or Points, each by itself."""
        fences = fences_of(asks)
        return [lambda: points_of(asks).points(), lambda: serves(asks, points), lambda: look_at_run(asks, run),
                lambda: trees_of(run), lambda: touched(run).points(), lambda: run_of(asks, points),
                lambda: Grower(asks).asks(), lambda: are_fences(asks, fences), lambda: floor_of(asks, fences),
                lambda: fences_of(asks), lambda: served_by(asks, len(asks)), lambda: served_by(asks, 60),
                lambda: least(asks[:4]), lambda: lets_case(asks, len(asks) - 1, ("over",)),
                lambda: need_of(asks, points, (asks[0], 0)), lambda: thinned(asks, points).points(),
                lambda: mirrored_asks(asks), lambda: backward_asks(asks), lambda: mirrored(points).points(),
                lambda: backward(points).points(), lambda: laid_asks(asks[:2], asks[:3]),
                lambda: bare_pairs(points), lambda: show_asks(asks), lambda: show_points(points), lambda: show_run(run),
                lambda: seam(asks[:1], Grower(asks[:1]).points(), asks[:3], Grower(asks[:3]).points())]

    def test_asked_twice_alike_and_nothing_changed(self):
        for asks in ([3, 1, 2, 0, 2], [5], [0, 30, 0, 30, 7, 7, 1]):
            points = Grower(asks).points()
            run = Grower(asks).run()
            ahead = (list(asks), points.points(), (run[0], list(run[1])))
            for deed in self.deeds(asks, points, run):
                first = deed()
                wanted = repr(first)
                if isinstance(first, list):
                    self.assertIsNot(first, asks)
                    first.append("x")
                    first[0] = "y"
                if isinstance(first, tuple) and isinstance(first[-1], list):
                    first[-1].clear()
                self.assertEqual(repr(deed()), wanted)
                self.assertEqual((asks, points.points(), run), ahead)


if __name__ == "__main__":
    unittest.main()
