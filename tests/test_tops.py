"""Promises 8 and 2, of thirdpoint.tops."""

import itertools
import random
import unittest

from drawing import NO_TREES, above, chain, drawn_top, drawn_tree, even_tree, nodes, turned_another_way
from thirdpoint.errors import NoTop, NoTree, PointError
from thirdpoint.tops import is_top, turned
from thirdpoint.trees import keys_of, look_at_tree

SMALL = (4, (1, (0, None, None), (3, None, None)), (9, None, (12, None, None)))


def all_trees(keys):
    """All trees of the keys, rising."""
    if not keys:
        return [None]
    return [(root, left, right) for at, root in enumerate(keys)
            for left in all_trees(keys[:at]) for right in all_trees(keys[at + 1:])]


def reckoned_top(tree, top):
    """Whether a tree is a top, by the words of promise 8."""
    over = above(tree)
    keys = nodes(top)
    return top is not None and all(key in over and (over[key] is None or over[key] in keys) for key in keys)


class Tops(unittest.TestCase):
    def test_tops_in_any_form(self):
        for top in [(4, None, None), (1, None, (4, None, None)), (4, (1, None, None), None),
                    (4, (1, None, (3, None, None)), None), (3, (1, None, None), (4, None, None)),
                    (9, (4, None, None), None), (12, (9, (4, None, None), None), None), SMALL,
                    chain([0, 1, 3, 4, 9, 12]), chain([12, 9, 4, 3, 1, 0]), chain([0, 12, 1, 9, 3, 4])]:
            self.assertIs(is_top(SMALL, top), True, top)
            self.assertIs(is_top(thing=top, tree=SMALL), True, top)

    def test_keys_that_lack_one_above(self):
        for top in [(1, None, None), (9, None, None), (12, None, None), (4, (3, None, None), None),
                    (4, None, (12, None, None)), (1, (0, None, None), (3, None, None)), (9, None, (12, None, None)),
                    (4, (0, None, None), (9, None, (12, None, None)))]:
            self.assertIs(is_top(SMALL, top), False, top)

    def test_keys_that_are_not_in_it(self):
        for top in [(5, None, None), (4, (2, None, None), None), (4, None, (5, None, None)),
                    (4, None, (9, None, (30, None, None))), (4, (1, (0, None, None), (2, None, None)), None),
                    even_tree(0, 31)]:
            self.assertIs(is_top(SMALL, top), False, top)

    def test_of_none(self):
        self.assertIs(is_top(None, None), False)
        self.assertIs(is_top(SMALL, None), False)
        self.assertIs(is_top(None, (4, None, None)), False)

    def test_what_is_no_tree_is_no_top(self):
        for thing in NO_TREES:
            self.assertIs(is_top(SMALL, thing), False)
            self.assertIs(is_top((1, None, None), thing), False)
            self.assertIs(is_top((5, None, None), thing), False)
            self.assertIs(is_top(None, thing), False)

    def test_the_first_thing_is_no_tree(self):
        for thing in NO_TREES:
            for other in (None, (1, None, None), thing, 5):
                with self.assertRaises(NoTree):
                    is_top(thing, other)
                with self.assertRaises(NoTree):
                    turned(thing, other)
        with self.assertRaises(NoTree):
            turned(top=None, tree=5)
        with self.assertRaises(NoTree):
            is_top(thing=None, tree=5)

    def test_all_trees_of_few_keys(self):
        keys = [2, 5, 6, 9]
        parts = [part for many in range(5) for part in itertools.combinations(keys, many)]
        tops = [top for part in parts for top in all_trees(part)]
        for part in parts:
            for tree in all_trees(part):
                for top in tops:
                    wanted = reckoned_top(tree, top)
                    self.assertIs(is_top(tree, top), wanted)
                    if wanted:
                        self.assertEqual(turned(tree, top), turned_another_way(tree, top))


class Turning(unittest.TestCase):
    def test_what_hung_beneath_hangs_where_the_order_lets_it(self):
        self.assertEqual(turned(SMALL, (1, None, (4, None, None))),
                         (1, (0, None, None), (4, (3, None, None), (9, None, (12, None, None)))))
        self.assertEqual(turned(tree=SMALL, top=(9, (4, None, None), None)),
                         (9, (4, (1, (0, None, None), (3, None, None)), None), (12, None, None)))
        self.assertEqual(turned(SMALL, (3, (1, None, None), (4, None, None))),
                         (3, (1, (0, None, None), None), (4, None, (9, None, (12, None, None)))))

    def test_by_the_root_alone(self):
        self.assertEqual(turned(SMALL, (4, None, None)), SMALL)
        self.assertEqual(turned((7, None, None), (7, None, None)), (7, None, None))

    def test_by_the_whole_tree(self):
        for top in (SMALL, chain([0, 1, 3, 4, 9, 12]), chain([12, 0, 9, 1, 4, 3])):
            self.assertEqual(turned(SMALL, top), top)
        self.assertEqual(turned(chain(range(31)), chain(range(30, -1, -1))), chain(range(30, -1, -1)))
        self.assertEqual(turned(chain(range(31)), even_tree(0, 31)), even_tree(0, 31))

    def test_half_of_a_chain_of_31(self):
        tree = chain(range(31))
        self.assertEqual(turned(tree, even_tree(0, 15)), turned_another_way(tree, even_tree(0, 15)))

    def test_drawn_tops(self):
        source = random.Random(9)
        for number in range(300):
            keys = sorted(source.sample(range(31), source.randrange(1, 32)))
            tree = drawn_tree(source, keys)
            top = drawn_top(source, tree, source.choice(keys))
            self.assertIs(is_top(tree, top), True)
            told = turned(tree, top)
            self.assertEqual(told, turned_another_way(tree, top))
            self.assertEqual(told, turned(tree, top))
            self.assertIsNone(look_at_tree(told))
            self.assertEqual(keys_of(told), keys)

    def test_what_is_no_top(self):
        wrong = [None, (5, None, None), (1, None, None), (4, (3, None, None), None), even_tree(0, 31)] + NO_TREES
        for thing in wrong:
            with self.assertRaises(NoTop) as caught:
                turned(SMALL, thing)
            self.assertIsInstance(caught.exception, PointError)
            with self.assertRaises(NoTop):
                turned(None, thing)


if __name__ == "__main__":
    unittest.main()
