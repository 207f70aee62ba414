"""Promises 7 and 2, of thirdpoint.trees."""

import itertools
import random
import unittest

from drawing import NO_TREES, chain, drawn_tree, even_tree, nodes, whole
from thirdpoint.errors import NoTree, PointError
from thirdpoint.trees import depth, keys_of, look_at_tree, tree_by, way_to

SMALL = (4, (1, (0, None, None), (3, None, None)), (9, None, (12, None, None)))


class Looking(unittest.TestCase):
    def test_trees_are_let_by(self):
        trees = [None, (0, None, None), (30, None, None), SMALL, even_tree(0, 31), chain(range(31)),
                 chain(range(30, -1, -1)), (5, (3, None, (4, None, None)), (8, (6, None, None), None))]
        for tree in trees:
            self.assertIsNone(look_at_tree(tree))
            self.assertIsNone(look_at_tree(thing=tree))

    def refused(self, thing):
        asked = [lambda: look_at_tree(thing), lambda: keys_of(thing), lambda: depth(thing), lambda: way_to(thing, 5),
                 lambda: look_at_tree(thing=thing), lambda: keys_of(tree=thing), lambda: depth(tree=thing),
                 lambda: way_to(key=0, tree=thing)]
        for ask in asked:
            with self.assertRaises(NoTree) as caught:
                ask()
            self.assertIsInstance(caught.exception, PointError)

    def test_what_is_no_tree(self):
        for thing in NO_TREES:
            self.refused(thing)

    def test_32_and_more_keys(self):
        self.refused(even_tree(0, 32))
        self.refused(even_tree(-1, 31))
        self.refused(even_tree(0, 40))
        self.refused(chain(range(32)))
        self.refused(chain(range(31, -1, -1)))
        self.refused(chain(range(5000)))

    def test_a_key_beyond_one_far_above(self):
        zigzag = chain([0, 30, 1, 29, 2, 28, 3, 27, 4])
        self.assertIsNone(look_at_tree(zigzag))
        self.refused(put_last(zigzag, (2, None, None)))
        self.refused(put_last(zigzag, (28, None, None)))
        self.refused(put_last(zigzag, (0, None, None)))
        self.refused(put_last(zigzag, (4, None, None)))

    def test_one_wrong_node_anywhere(self):
        tree = even_tree(0, 31)
        for key in range(31):
            for wrong in (True, None, "5", -1, 31, (key + 1) % 31, (key + 15) % 31):
                self.refused(renamed(tree, key, wrong))


def put_last(tree, node):
    """The chain with the node as the right one beneath its last."""
    if tree is None:
        return node
    if tree[1] is not None:
        return (tree[0], put_last(tree[1], node), tree[2])
    return (tree[0], tree[1], put_last(tree[2], node))


def renamed(tree, key, other):
    """The tree with another thing in the key's place."""
    if tree is None:
        return None
    return (other if tree[0] == key else tree[0], renamed(tree[1], key, other), renamed(tree[2], key, other))


class Telling(unittest.TestCase):
    def test_keys_rising(self):
        self.assertEqual(keys_of(None), [])
        self.assertEqual(keys_of((7, None, None)), [7])
        self.assertEqual(keys_of(tree=SMALL), [0, 1, 3, 4, 9, 12])
        self.assertEqual(keys_of(even_tree(0, 31)), list(range(31)))
        self.assertEqual(keys_of(chain([0, 30, 1, 29, 2])), [0, 1, 2, 29, 30])

    def test_depth(self):
        self.assertEqual(depth(None), 0)
        self.assertEqual(depth((7, None, None)), 1)
        self.assertEqual(depth(tree=SMALL), 3)
        self.assertEqual(depth((4, (3, (1, None, None), None), None)), 3)
        self.assertEqual(depth((4, None, (5, None, (6, None, None)))), 3)
        self.assertEqual(depth((4, (3, None, None), (5, None, (6, None, None)))), 3)
        self.assertEqual(depth(even_tree(0, 31)), 5)
        for many in range(32):
            self.assertEqual(depth(chain(range(many))), many)
            self.assertEqual(depth(chain(range(many - 1, -1, -1))), many)

    def test_way_to_a_key_that_is_there(self):
        self.assertEqual(way_to(SMALL, 4), [4])
        self.assertEqual(way_to(SMALL, 1), [4, 1])
        self.assertEqual(way_to(SMALL, 3), [4, 1, 3])
        self.assertEqual(way_to(key=12, tree=SMALL), [4, 9, 12])
        self.assertEqual(way_to(chain(range(31)), 30), list(range(31)))
        self.assertEqual(way_to(chain(range(30, -1, -1)), 28), [30, 29, 28])

    def test_way_to_a_key_that_is_not_there(self):
        self.assertEqual(way_to(SMALL, 2), [4, 1, 3])
        self.assertEqual(way_to(SMALL, 5), [4, 9])
        self.assertEqual(way_to(SMALL, 10), [4, 9, 12])
        self.assertEqual(way_to(SMALL, 30), [4, 9, 12])
        self.assertEqual(way_to(None, 5), [])
        self.assertEqual(way_to(None, 0), [])

    def test_every_key_of_drawn_trees(self):
        source = random.Random(7)
        for many in range(32):
            tree = drawn_tree(source, sorted(source.sample(range(31), many)))
            self.assertEqual(keys_of(tree), sorted(nodes(tree)))
            for key in range(31):
                way = way_to(tree, key)
                self.assertEqual(way, reckoned_way(tree, key))
                self.assertEqual(key in way, key in nodes(tree))
            self.assertEqual(depth(tree), max([len(way_to(tree, key)) for key in range(31)]))

    def test_every_list_is_a_new_one(self):
        for ask in (lambda: keys_of(SMALL), lambda: way_to(SMALL, 3), lambda: keys_of(None), lambda: way_to(None, 3)):
            first = ask()
            wanted = list(first)
            first.append(99)
            first.reverse()
            self.assertEqual(ask(), wanted)
        self.assertEqual(SMALL, (4, (1, (0, None, None), (3, None, None)), (9, None, (12, None, None))))


def reckoned_way(tree, key):
    """The way, by the words of promise 7: who stands above the key, or above the place that lacks it."""
    if tree is None:
        return []
    if tree[0] == key:
        return [key]
    return [tree[0]] + reckoned_way(tree[1 if key < tree[0] else 2], key)


class ByRanks(unittest.TestCase):
    def test_a_few(self):
        self.assertIsNone(tree_by({}))
        self.assertEqual(tree_by({5: 3}), (5, None, None))
        self.assertEqual(tree_by(ranks={1: 2, 2: 1, 3: 0}), (3, (2, (1, None, None), None), None))
        self.assertEqual(tree_by({1: 1, 2: 0, 3: 1}), (2, (1, None, None), (3, None, None)))

    def test_of_those_alike_the_least_key(self):
        self.assertEqual(tree_by({3: 7, 1: 7, 2: 7}), (1, None, (2, None, (3, None, None))))
        self.assertEqual(tree_by({4: 1, 2: 0, 6: 0, 1: 5, 8: 5, 9: 5}),
                         (2, (1, None, None), (6, (4, None, None), (8, None, (9, None, None)))))
        self.assertEqual(tree_by({key: 0 for key in range(30, -1, -1)}), chain(range(31)))

    def test_ranks_below_0_and_far_beyond(self):
        self.assertEqual(tree_by({0: -5, 1: -6, 2: 10 ** 59}), (1, (0, None, None), (2, None, None)))
        self.assertEqual(tree_by({0: 10 ** 59, 1: -10 ** 59, 2: 0}), (1, (0, None, None), (2, None, None)))
        self.assertEqual(tree_by({0: 31, 1: 100, 2: 30}), (2, (0, None, (1, None, None)), None))

    def test_chains_of_31(self):
        self.assertEqual(tree_by({key: key for key in range(31)}), chain(range(31)))
        self.assertEqual(tree_by({key: -key for key in range(31)}), chain(range(30, -1, -1)))

    def test_whatever_the_order_of_the_dict(self):
        ranks = {3: 1, 9: 0, 0: 1, 30: 0, 7: 2}
        wanted = whole(sorted(ranks, key=lambda key: (ranks[key], key)))
        for row in itertools.permutations(ranks.items()):
            handed = dict(row)
            self.assertEqual(tree_by(handed), wanted)
            self.assertEqual(list(handed.items()), list(row))

    def test_drawn_ranks(self):
        source = random.Random(8)
        for number in range(300):
            keys = source.sample(range(31), source.randrange(32))
            wide = source.choice([0, 2, 10, 1000])
            ranks = {key: source.randint(-wide, wide) for key in keys}
            ahead = list(ranks.items())
            tree = tree_by(ranks)
            # Coming in the order of their ranks, each key finds its place beneath all that came ahead.
            self.assertEqual(tree, whole(sorted(keys, key=lambda key: (ranks[key], key))))
            self.assertIsNone(look_at_tree(tree))
            self.assertEqual(list(ranks.items()), ahead)


if __name__ == "__main__":
    unittest.main()
