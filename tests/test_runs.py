"""Promises 9, 3 (a) and 2, of thirdpoint.runs."""

import copy
import itertools
import random
import unittest

from drawing import NO_KEYS, NO_TREES, chain, drawn_runs, drawn_tree, even_tree, nodes, turned_another_way
from thirdpoint.asks import serves
from thirdpoint.boxes import is_filled
from thirdpoint.errors import NoAsks, NoRun, PointError, TooMany
from thirdpoint.points import Points
from thirdpoint.runs import look_at_run, touched, trees_of

FIRST = (1, (0, None, None), (2, None, None))
ASKS = [0, 2]
TOPS = [(0, None, (1, None, None)), (2, (0, None, (1, None, None)), None)]
RUN = (FIRST, TOPS)


class Looking(unittest.TestCase):
    def refused(self, asks, thing, moment):
        with self.assertRaises(NoRun) as caught:
            look_at_run(asks, thing)
        self.assertEqual(repr(caught.exception.moment), repr(moment))
        self.assertIsInstance(caught.exception, PointError)

    def test_runs_that_serve(self):
        self.assertIsNone(look_at_run(ASKS, RUN))
        self.assertIsNone(look_at_run(thing=RUN, asks=ASKS))
        self.assertIsNone(look_at_run([5], ((5, None, None), [(5, None, None)])))
        self.assertIsNone(look_at_run([1, 1], (FIRST, [(1, None, None), FIRST])))
        whole = even_tree(0, 31)
        self.assertIsNone(look_at_run(list(range(31)), (whole, [whole] * 31)))
        for asks, run in drawn_runs(1, 150):
            self.assertIsNone(look_at_run(asks, run))

    def test_no_tuple_of_two(self):
        for thing in [None, True, 0, "", "ab", b"ab", 1.0, {}, {0: 1}, [], [FIRST, TOPS], (), (FIRST,),
                      (FIRST, TOPS, None), (TOPS, FIRST), FIRST, object(), Points(), TOPS]:
            self.refused(ASKS, thing, None)

    def test_the_first_is_no_tree(self):
        for thing in NO_TREES:
            self.refused(ASKS, (thing, TOPS), None)

    def test_the_second_is_no_list_of_as_many(self):
        for thing in [None, True, 2, "ab", {}, {0: TOPS[0], 1: TOPS[1]}, tuple(TOPS), [], TOPS[:1], TOPS + TOPS[1:],
                      TOPS * 2, Points([(0, 0), (1, 1)]), [None], [None] * 3, [None] * 100]:
            self.refused(ASKS, (FIRST, thing), None)
        self.refused([0, 2, 2], RUN, None)
        self.refused([0], RUN, None)

    def test_the_first_moment_whose_thing_is_no_top(self):
        for thing in NO_TREES + [None, (0, None, None), (5, None, None), (3, (1, None, None), None)]:
            self.refused(ASKS, (FIRST, [thing, TOPS[1]]), 0)
            self.refused(ASKS, (FIRST, [thing, thing]), 0)
            self.refused([0, 2, 0], (FIRST, [TOPS[0], thing, TOPS[0]]), 1)
            self.refused([1] * 31, (FIRST, [FIRST] * 30 + [thing]), 30)

    def test_a_tree_of_none_has_no_tops(self):
        self.refused([0], (None, [None]), 0)
        self.refused([0], (None, [(0, None, None)]), 0)

    def test_the_ask_lacks(self):
        self.refused([0], (FIRST, [(1, None, None)]), 0)
        self.refused([5], (FIRST, [FIRST]), 0)
        self.refused([0, 2], (FIRST, [TOPS[0], TOPS[0]]), 1)
        self.refused([2, 2], RUN, 0)
        self.refused([0, 0, 2], (FIRST, [TOPS[0], (0, None, None), (0, None, None)]), 2)

    def test_a_top_of_the_first_tree_that_is_none_as_it_is_then(self):
        first = (1, None, None)
        self.assertIsNone(look_at_run([1, 0], (FIRST, [first, FIRST])))
        self.assertIsNone(look_at_run([1], (FIRST, [first])))
        # By the top at moment 0 the root becomes 0, so that 1 alone is no top any more.
        self.refused([0, 1], (FIRST, [TOPS[0], first]), 1)
        self.assertIsNone(look_at_run([0, 0], (FIRST, [TOPS[0], (0, None, None)])))
        self.refused([0, 0], (FIRST, [FIRST, (0, None, None)]), 1)

    def test_no_asks_goes_ahead(self):
        for thing in (RUN, None, 5, (None, [])):
            for asks, number in ((None, None), ((0, 2), None), ([], None), ([0] * 32, None), ([0, True], 1),
                                 ([31], 0), ("02", None)):
                with self.assertRaises(NoAsks) as caught:
                    look_at_run(asks, thing)
                self.assertEqual(caught.exception.number, number)
        for thing in NO_KEYS:
            with self.assertRaises(NoAsks) as caught:
                look_at_run([0, thing], RUN)
            self.assertEqual(caught.exception.number, 1)

    def test_drawn_runs_with_a_wrong_moment(self):
        source = random.Random(11)
        for asks, run in drawn_runs(2, 100):
            moment = source.randrange(len(asks))
            for wrong in (None, 7, (30, (30, None, None), None)):
                tops = run[1][:moment] + [wrong] + run[1][moment + 1:]
                self.refused(asks, (run[0], tops), moment)
            lacking = [key for key in range(31) if key not in nodes(run[1][moment])][0]
            self.refused(asks[:moment] + [lacking] + asks[moment + 1:], run, moment)


class Trees(unittest.TestCase):
    def test_a_few(self):
        self.assertEqual(trees_of(RUN), [FIRST, (0, None, (1, None, (2, None, None))),
                                         (2, (0, None, (1, None, None)), None)])
        self.assertEqual(trees_of(run=((5, None, None), [(5, None, None)])), [(5, None, None)] * 2)

    def test_one_ahead_of_each_moment_and_the_last_one_behind_all(self):
        for asks, run in drawn_runs(3, 150):
            trees = trees_of(run)
            self.assertEqual(len(trees), len(asks) + 1)
            self.assertEqual(trees[0], run[0])
            for moment, top in enumerate(run[1]):
                self.assertEqual(trees[moment + 1], turned_another_way(trees[moment], top))


class Touching(unittest.TestCase):
    def test_a_few(self):
        self.assertEqual(touched(RUN), Points([(0, 0), (1, 0), (0, 1), (1, 1), (2, 1)]))
        self.assertEqual(touched(run=((5, None, None), [(5, None, None)])), Points([(5, 0)]))

    def test_the_keys_of_each_moment(self):
        for asks, run in drawn_runs(4, 100):
            wanted = [(key, moment) for moment, top in enumerate(run[1]) for key in sorted(nodes(top))]
            self.assertEqual(touched(run).points(), wanted)

    def test_what_runs_touch_serves_their_asks(self):
        for asks, run in drawn_runs(5, 400):
            points = touched(run)
            self.assertIs(is_filled(points), True)
            self.assertIs(serves(asks, points), True)

    def test_200_and_more(self):
        tree = even_tree(0, 10)
        forms = [tree, chain(range(10)), chain(range(9, -1, -1))]
        self.assertEqual(len(touched((tree, (forms * 7)[:20]))), 200)
        for tops, many in ((forms * 7, 210), ([tree] * 31, 310), ([tree] * 20 + [(5, None, None)], 201)):
            with self.assertRaises(TooMany) as caught:
                touched((tree, tops))
            self.assertEqual(caught.exception.many, many)
        whole = even_tree(0, 31)
        with self.assertRaises(TooMany) as caught:
            touched(run=(whole, [whole] * 31))
        self.assertEqual(caught.exception.many, 961)
        # Where too many are touched the trees are told still.
        self.assertEqual(trees_of((whole, [whole] * 31)), [whole] * 32)


class AllTrees(unittest.TestCase):
    def test_all_short_runs_of_three_keys(self):
        source = random.Random(12)
        forms = sorted({drawn_tree(source, part) for many in range(1, 4) for time in range(40)
                        for part in itertools.combinations((0, 1, 2), many)}, key=repr)
        for tree in [form for form in forms if len(nodes(form)) == 3]:
            for tops in itertools.product(forms, repeat=2):
                asks = [min(nodes(top)) for top in tops]
                try:
                    look_at_run(asks, (tree, list(tops)))
                except NoRun:
                    continue
                self.assertIs(serves(asks, touched((tree, list(tops)))), True)


class NothingKept(unittest.TestCase):
    def test_nothing_handed_in_is_changed(self):
        asks, run = list(ASKS), (FIRST, list(TOPS))
        look_at_run(asks, run)
        trees_of(run)
        touched(run)
        self.assertEqual((asks, run), (ASKS, (FIRST, TOPS)))
        wrong = (FIRST, [TOPS[0], [1, [2]]])
        ahead = copy.deepcopy(wrong)
        with self.assertRaises(NoRun):
            look_at_run(asks, wrong)
        self.assertEqual(wrong, ahead)

    def test_every_list_is_a_new_one(self):
        run = (FIRST, list(TOPS))
        told = trees_of(run)
        wanted = list(told)
        points = touched(run)
        told.append(None)
        told[0] = None
        self.assertEqual(trees_of(run), wanted)
        self.assertEqual(run, RUN)
        run[1].pop()
        self.assertEqual(points, touched(RUN))


if __name__ == "__main__":
    unittest.main()
