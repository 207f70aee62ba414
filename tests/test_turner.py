"""Promises 20 and 2, of thirdpoint.turner."""

import random
import unittest

from drawing import (NO_KEYS, NO_TREES, chain, drawn_runs, drawn_top, drawn_tree, even_tree, nodes,
                     turned_another_way, whole)
from thirdpoint.asks import serves
from thirdpoint.errors import NoBack, NoKey, NoTop, NoTree, PointError, TooMany
from thirdpoint.growing import Grower
from thirdpoint.points import Points
from thirdpoint.runs import look_at_run, touched
from thirdpoint.texts import read_tree, show_tree
from thirdpoint.turner import Turner

FLAT = (1, (0, None, None), (2, None, None))
SOME_RUNS = [(asks, run) for asks, run in drawn_runs(111, 120) if sum(len(nodes(top)) for top in run[1]) <= 200]


def way(tree, key):
    """The keys from the root to the key."""
    found = []
    while tree is not None:
        found.append(tree[0])
        if tree[0] == key:
            break
        tree = tree[1] if key < tree[0] else tree[2]
    return found


def reckoned_top(tree, key):
    """The way's top: the asked one first, then the others in their order, come into an empty tree."""
    return whole([key] + [other for other in way(tree, key) if other != key])


def state(made):
    """All that a Turner tells."""
    return (made.tree(), made.asks(), made.run(), made.points(), made.cost(), len(made), str(made), repr(made))


def done(asks, run):
    """A Turner of the run."""
    made = Turner(run[0])
    for key, top in zip(asks, run[1]):
        made.ask(key, top)
    return made


class Making(unittest.TestCase):
    def test_of_a_tree(self):
        for tree in (None, FLAT, chain(range(31)), even_tree(0, 31), (30, None, None)):
            for made in (Turner(tree), Turner(tree=tree)):
                self.assertEqual(state(made), (tree, [], (tree, []), Points(), 0, 0, show_tree(tree),
                                               f"Turner({show_tree(tree)})"))

    def test_no_tree(self):
        for thing in NO_TREES:
            with self.assertRaises(NoTree) as caught:
                Turner(thing)
            self.assertIsInstance(caught.exception, PointError)


class Asking(unittest.TestCase):
    def test_with_a_top(self):
        made = Turner(FLAT)
        self.assertEqual(made.ask(0, (0, None, (1, None, None))), 2)
        self.assertEqual(made.tree(), (0, None, (1, None, (2, None, None))))
        self.assertEqual(made.ask(top=(0, None, None), key=0), 1)
        self.assertEqual(made.ask(1, top=(1, (0, None, None), None)), 2)
        self.assertEqual(made.tree(), FLAT)
        self.assertEqual(made.asks(), [0, 0, 1])
        self.assertEqual(made.run(), (FLAT, [(0, None, (1, None, None)), (0, None, None), (1, (0, None, None), None)]))
        self.assertEqual(made.points(), Points([(0, 0), (1, 0), (0, 1), (0, 2), (1, 2)]))
        self.assertEqual((made.cost(), len(made)), (5, 3))

    def test_with_the_ways_top(self):
        made = Turner(FLAT)
        self.assertEqual(made.ask(2), 2)
        self.assertEqual(made.tree(), (2, (1, (0, None, None), None), None))
        self.assertEqual(made.run()[1], [(2, (1, None, None), None)])
        self.assertEqual(made.ask(2, None), 1)
        self.assertEqual(made.ask(key=0), 3)
        self.assertEqual(made.tree(), (0, None, (2, (1, None, None), None)))

    def test_the_ways_top_both_ways(self):
        # The way to 5 is 2, 9, 4, 7, 5: the lesser ones are 2, 4, the greater ones 9, 7.
        tree = chain([2, 9, 4, 7, 5])
        made = Turner(tree)
        self.assertEqual(made.ask(5), 5)
        self.assertEqual(made.tree(), (5, (2, None, (4, None, None)), (9, (7, None, None), None)))
        made = Turner(chain(range(31)))
        self.assertEqual(made.ask(30), 31)
        self.assertEqual(made.tree(), (30, chain(range(30)), None))

    def test_the_ways_top_of_drawn_trees(self):
        source = random.Random(112)
        for time in range(60):
            keys = sorted(source.sample(range(31), source.choice([1, 2, 5, 12, 31])))
            tree = drawn_tree(source, keys)
            made = Turner(tree)
            for step in range(5):
                key = source.choice(keys)
                top = reckoned_top(tree, key)
                self.assertEqual(made.ask(key) if step % 2 else made.ask(key, None), len(way(tree, key)))
                tree = turned_another_way(tree, top)
                self.assertEqual(made.tree(), tree)
                self.assertEqual(made.run()[1][-1], top)

    def test_drawn_runs(self):
        for asks, run in SOME_RUNS:
            made, tree = Turner(run[0]), run[0]
            for key, top in zip(asks, run[1]):
                self.assertEqual(made.ask(key, top), len(nodes(top)))
                tree = turned_another_way(tree, top)
                self.assertEqual(made.tree(), tree)
            self.assertEqual((made.asks(), made.run()), (asks, run))
            self.assertEqual(made.points(), touched(run))
            self.assertEqual(made.cost(), len(touched(run)))
            self.assertEqual(len(made), len(asks))

    def test_what_it_tells_serves(self):
        source = random.Random(113)
        for time in range(40):
            keys = sorted(source.sample(range(31), source.choice([1, 3, 6, 9])))
            made = Turner(drawn_tree(source, keys))
            for step in range(source.choice([1, 4, 12])):
                key = source.choice(keys)
                made.ask(key, source.choice([None, drawn_top(source, made.tree(), key)]))
            self.assertIsNone(look_at_run(made.asks(), made.run()))
            self.assertEqual(touched(made.run()), made.points())
            self.assertEqual(len(made.points()), made.cost())
            self.assertIs(serves(made.asks(), made.points()), True)

    def test_the_run_of_a_grower(self):
        for asks in ([3, 5, 4], [0, 9, 0, 9, 4], list(range(12))):
            grower = Grower(asks)
            made = done(asks, grower.run())
            self.assertEqual(made.points(), grower.points())
            self.assertEqual(made.run(), grower.run())


class Refused(unittest.TestCase):
    def unchanged(self, made, kind, *asked):
        """Asks in both ways, which is refused and changes nothing; told is the error."""
        names = dict(zip(("key", "top"), asked))
        for ask in (lambda: made.ask(*asked), lambda: made.ask(**names)):
            ahead = state(made)
            with self.assertRaises(kind) as caught:
                ask()
            self.assertEqual(state(made), ahead)
        return caught.exception

    def test_no_key(self):
        asked = done([0], (FLAT, [(0, None, (1, None, None))]))
        for made in (Turner(FLAT), Turner(None), Turner(even_tree(0, 20)), asked):
            for key in NO_KEYS + [21, 30]:
                for rest in ((), (None,), ((1, None, None),), ("x",)):
                    error = self.unchanged(made, NoKey, key, *rest)
                    self.assertIs(error.key, key)
                    self.assertNotIsInstance(error, PointError)
        for key in range(31):
            self.unchanged(Turner(None), NoKey, key)

    def test_no_key_goes_ahead_of_no_top(self):
        made = Turner(FLAT)
        for top in NO_TREES + [(3, None, None), (0, None, None)]:
            self.assertEqual(self.unchanged(made, NoKey, 3, top).key, 3)

    def test_no_top(self):
        made = Turner(FLAT)
        for top in NO_TREES + [(0, None, None), (2, None, None), (3, None, None), (0, None, (2, None, None)),
                               (1, None, (3, None, None)), mirrored_flat()]:
            self.assertIsInstance(self.unchanged(made, NoTop, 0, top), PointError)

    def test_a_top_that_lacks_the_key(self):
        made = Turner(FLAT)
        self.unchanged(made, NoTop, 0, (1, None, None))
        self.unchanged(made, NoTop, 0, (2, (1, None, None), None))
        self.unchanged(made, NoTop, 2, (0, None, (1, None, None)))
        self.assertEqual(made.ask(1, (1, None, None)), 1)

    def test_a_top_of_the_tree_at_first_alone(self):
        made = Turner(FLAT)
        made.ask(0)
        # The tree is (0 . (1 . (2 . .))) now.
        self.unchanged(made, NoTop, 1, (1, None, None))
        self.unchanged(made, NoTop, 2, (1, None, (2, None, None)))
        made.back()
        self.assertEqual(made.ask(1, (1, None, None)), 1)

    def test_a_32nd_ask(self):
        made = Turner(FLAT)
        for time in range(31):
            self.assertEqual(made.ask(1), 1)
        for key, top in ((1, None), (0, None), (1, (1, None, None)), (2, (2, (1, None, None), None))):
            self.assertEqual(self.unchanged(made, TooMany, key, top).many, 32)
        self.assertEqual(self.unchanged(made, TooMany, 1).many, 32)
        # What was refused ahead of it still is.
        self.assertEqual(self.unchanged(made, NoKey, 5).key, 5)
        self.unchanged(made, NoTop, 1, (0, None, None))
        made.back()
        self.assertEqual(made.ask(2), 2)

    def test_more_than_200_points(self):
        tree = even_tree(0, 20)
        made = Turner(tree)
        for time in range(10):
            self.assertEqual(made.ask(3, tree), 20)
        self.assertEqual(made.cost(), 200)
        self.assertEqual(self.unchanged(made, TooMany, 10, (10, None, None)).many, 201)
        self.assertEqual(self.unchanged(made, TooMany, 0).many, 205)
        self.assertEqual(self.unchanged(made, TooMany, 3, tree).many, 220)
        self.assertEqual(self.unchanged(made, NoKey, 30).key, 30)
        self.unchanged(made, NoTop, 3, (10, None, None))
        made.back()
        self.assertEqual(made.ask(3, tree), 20)
        self.assertEqual(made.cost(), 200)

    def test_the_32nd_ask_goes_ahead_of_too_many_points(self):
        tree = even_tree(0, 6)
        made = Turner(tree)
        for time in range(31):
            made.ask(0, tree)
        self.assertEqual(made.cost(), 186)
        great = Turner(even_tree(0, 31))
        for time in range(5):
            great.ask(0, even_tree(0, 31))
        for time in range(26):
            great.ask(15)
        self.assertEqual((len(great), great.cost()), (31, 181))
        self.assertEqual(self.unchanged(great, TooMany, 0, even_tree(0, 31)).many, 32)
        great.back()
        self.assertEqual(self.unchanged(great, TooMany, 0, even_tree(0, 31)).many, 211)


def mirrored_flat():
    """What has all keys of FLAT, but out of order."""
    return (1, (2, None, None), (0, None, None))


class Back(unittest.TestCase):
    def test_the_tree_is_as_ahead_of_it(self):
        for asks, run in SOME_RUNS[:60]:
            made, states = Turner(run[0]), []
            for key, top in zip(asks, run[1]):
                states.append(state(made))
                made.ask(key, top)
            for key in reversed(asks):
                self.assertEqual(made.back(), key)
                self.assertEqual(state(made), states.pop())
            self.no_back(made)

    def no_back(self, made):
        ahead = state(made)
        with self.assertRaises(NoBack) as caught:
            made.back()
        self.assertIsInstance(caught.exception, IndexError)
        self.assertNotIsInstance(caught.exception, PointError)
        self.assertEqual(state(made), ahead)

    def test_no_back(self):
        for tree in (None, FLAT, even_tree(0, 31)):
            self.no_back(Turner(tree))

    def test_asked_on_behind_it(self):
        made = Turner(FLAT)
        made.ask(0)
        made.ask(2)
        self.assertEqual(made.back(), 2)
        made.ask(1)
        self.assertEqual(made.asks(), [0, 1])
        self.assertIsNone(look_at_run([0, 1], made.run()))


class Alike(unittest.TestCase):
    def test_equal(self):
        for asks, run in SOME_RUNS[:40]:
            one, other = done(asks, run), done(asks, run)
            self.assertTrue(one == other)
            self.assertFalse(one != other)
            key = other.back()
            self.assertFalse(one == other)
            other.ask(key, run[1][-1])
            self.assertTrue(one == other)

    def test_run_and_asks(self):
        top = (1, (0, None, None), None)
        # The same run for other asks; the same asks by another top; another tree at first.
        self.assertFalse(done([0], (FLAT, [top])) == done([1], (FLAT, [top])))
        self.assertFalse(done([0], (FLAT, [top])) == done([0], (FLAT, [(0, None, (1, None, None))])))
        self.assertFalse(Turner(FLAT) == Turner(chain([0, 1, 2])))
        one, other = Turner(FLAT), Turner(chain([0, 1, 2]))
        one.ask(0)
        self.assertEqual(one.tree(), other.tree())
        self.assertFalse(one == other)
        self.assertTrue(Turner(None) == Turner(None))

    def test_to_nothing_else(self):
        made = Turner(FLAT)
        for thing in (None, True, 0, FLAT, (FLAT, []), [], "(1 (0 . .) (2 . .))", Points(), Grower(), object()):
            self.assertFalse(made == thing)
            self.assertTrue(made != thing)
            self.assertFalse(thing == made)

    def test_texts(self):
        made = Turner(FLAT)
        made.ask(0)
        self.assertEqual(str(made), "(0 . (1 . (2 . .)))")
        self.assertEqual(repr(made), "Turner((0 . (1 . (2 . .))))")
        self.assertEqual(f"{made} {made!r}", f"{str(made)} {repr(made)}")
        self.assertEqual((str(Turner(None)), repr(Turner(None))), (".", "Turner(.)"))
        for asks, run in SOME_RUNS[:40]:
            made = done(asks, run)
            self.assertEqual(read_tree(str(made)), made.tree())


class Twins(unittest.TestCase):
    def test_equal_and_apart(self):
        for asks, run in SOME_RUNS[:40]:
            made = done(asks, run)
            twin = made.twin()
            self.assertIsInstance(twin, Turner)
            self.assertTrue(made == twin and twin == made)
            self.assertEqual(state(made), state(twin))
            ahead = state(made)
            twin.back()
            self.assertEqual(state(made), ahead)
            twin.ask(asks[0])
            twin.ask(asks[-1])
            self.assertEqual(state(made), ahead)
            ahead = state(twin)
            made.back()
            made.ask(asks[0])
            self.assertEqual(state(twin), ahead)

    def test_the_twin_of_a_new_one(self):
        made = Turner(FLAT)
        twin = made.twin()
        twin.ask(0)
        self.assertEqual((len(made), len(twin)), (0, 1))
        self.assertEqual(made.tree(), FLAT)
        with self.assertRaises(NoBack):
            made.back()

    def test_back_through_the_twins_asks(self):
        made = Turner(FLAT)
        made.ask(0)
        made.ask(2)
        twin = made.twin()
        self.assertEqual((twin.back(), twin.back()), (2, 0))
        self.assertEqual(twin.tree(), FLAT)


class NothingKept(unittest.TestCase):
    def test_every_list_is_a_new_one(self):
        made = done([0, 1], (FLAT, [(0, None, (1, None, None)), (1, (0, None, None), None)]))
        ahead = state(made)
        made.asks().clear()
        made.run()[1].clear()
        made.run()[1].append(None)
        made.points().points().clear()
        self.assertEqual(state(made), ahead)
        told = (made.asks(), made.run())
        made.ask(1)
        made.back()
        made.back()
        self.assertEqual(told, (ahead[1], ahead[2]))

    def test_two_know_nothing_of_one_another(self):
        one, other = Turner(FLAT), Turner(FLAT)
        one.ask(0)
        self.assertEqual(state(other), state(Turner(FLAT)))


if __name__ == "__main__":
    unittest.main()
