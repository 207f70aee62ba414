"""What several tests draw, the same each time, and things of many kinds."""

import itertools
import random

from thirdpoint.points import Points

NO_KEYS = [None, True, False, -1, 31, 32, -30, 10 ** 59, -10 ** 59, "", "0", "1", b"\x01", 1.0, 0.0,
           (), (1,), (1, None, None), [], [1], {}, {1: 1}, {1}, object(), int, len]

# What are no asks, with the number that NoAsks has.
WRONG_ASKS = [(None, None), ((), None), ((1, 2), None), ("12", None), (5, None), (True, None), ({}, None), ([], None),
              ([0] * 32, None), (Points([(1, 0)]), None)] + [([0, thing, thing], 1) for thing in NO_KEYS]


def deep_tuple(many, key=5):
    """Tuples of three, so many within one another."""
    thing = None
    for number in range(many):
        thing = (key, thing, None)
    return thing


def wide_tuple(many):
    """Tuples of three that bear the same one twice, so that walking all of it would not end."""
    thing = None
    for number in range(many):
        thing = (5, thing, thing)
    return thing


def ring():
    """A list that holds itself."""
    thing = []
    thing.append(thing)
    return thing


NO_TREES = [True, False, 0, 5, "", ".", "(1 . .)", b"", 1.0, {}, {1: None}, {1}, object(), int,
            [], [1, None, None], [None], (), (1,), (1, None), (1, None, None, None), (None, None, None),
            (True, None, None), (False, None, None), (-1, None, None), (31, None, None), (10 ** 59, None, None),
            ("1", None, None), (1.0, None, None), ([1], None, None), ((1,), None, None), ((1, None, None),) * 3,
            (1, 0, None), (1, None, 2), (1, False, None), (1, None, False), (1, "", None), (1, None, ()),
            (1, [], None), (1, {}, None), (1, [0, None, None], None), (1, None, [2, None, None]),
            (2, (True, None, None), None), (2, (1, None), None), (2, None, (3, None, None, None)),
            (1, (1, None, None), None), (1, None, (1, None, None)), (1, (2, None, None), None),
            (1, None, (0, None, None)), (5, (3, None, (6, None, None)), None), (5, (3, None, (5, None, None)), None),
            (5, None, (8, (4, None, None), None)), (5, None, (8, (5, None, None), None)),
            (5, (3, (1, None, (3, None, None)), None), None), (20, None, (31, None, None)),
            (20, (-1, None, None), None), deep_tuple(40), deep_tuple(100000), wide_tuple(60), (5, deep_tuple(9), None),
            ring(), (5, ring(), None), (ring(), None, None)]


def chain(keys):
    """A tree in which each key stands straight beneath the one ahead of it."""
    tree = None
    for key in reversed(keys):
        if tree is not None and tree[0] < key:
            tree = (key, tree, None)
        else:
            tree = (key, None, tree)
    return tree


def even_tree(low, high):
    """A tree of the keys from low to one less than high, as flat as can be."""
    if low == high:
        return None
    middle = (low + high) // 2
    return (middle, even_tree(low, middle), even_tree(middle + 1, high))


def drawn_tree(source, keys):
    """Some tree of the keys, rising."""
    if not keys:
        return None
    at = source.randrange(len(keys))
    return (keys[at], drawn_tree(source, keys[:at]), drawn_tree(source, keys[at + 1:]))


def nodes(tree):
    """The keys of the tree, each ahead of all beneath it."""
    return [] if tree is None else [tree[0]] + nodes(tree[1]) + nodes(tree[2])


def above(tree, over=None):
    """From each key of the tree to the one above it, None for the root."""
    if tree is None:
        return {}
    return {tree[0]: over, **above(tree[1], tree[0]), **above(tree[2], tree[0])}


def drawn_top(source, tree, key):
    """Some top of the tree that has the key."""
    over = above(tree)
    taken = {key} | {node for node in over if source.random() < 0.15}
    for node in list(taken):
        while node is not None:
            taken.add(node)
            node = over[node]
    return drawn_tree(source, sorted(taken))


def put(tree, key):
    """The tree with the key as a new node beneath all."""
    if tree is None:
        return (key, None, None)
    if key < tree[0]:
        return (tree[0], put(tree[1], key), tree[2])
    return (tree[0], tree[1], put(tree[2], key))


def whole(keys):
    """The tree to which the keys come one by one."""
    tree = None
    for key in keys:
        tree = put(tree, key)
    return tree


def turned_another_way(tree, top):
    """The tree turned by the top: first come the top's keys, then the others in the order in which they stood."""
    first = nodes(top)
    return whole(first + [key for key in nodes(tree) if key not in first])


def drawn_runs(seed, many):
    """Tuples (asks, run), so many, of all sizes."""
    source = random.Random(seed)
    for number in range(many):
        keys = sorted(source.sample(range(31), source.choice([1, 2, 3, 5, 8, 12])))
        first = tree = drawn_tree(source, keys)
        asks = [source.choice(keys) for moment in range(source.choice([1, 2, 3, 6, 10, 15]))]
        tops = []
        for key in asks:
            tops.append(drawn_top(source, tree, key))
            tree = turned_another_way(tree, tops[-1])
        yield asks, (first, tops)


def drawn_asks(seed, many):
    """Asks, so many lists, of all lengths and of few and many unlike keys."""
    source = random.Random(seed)
    for number in range(many):
        keys = source.sample(range(31), source.choice([1, 2, 3, 4, 6, 10, 31]))
        yield [source.choice(keys) for moment in range(source.choice([1, 2, 3, 5, 8, 13, 20, 31]))]


ORDERLY_ASKS = [list(range(31)), list(range(30, -1, -1)), [7] * 31, [0], [30], [0, 30] * 15 + [0],
                [(5 * at) % 31 for at in range(31)], [int(f"{at:05b}"[::-1], 2) % 31 for at in range(31)]]


def in_the_box(point, one, other):
    """Whether the point is in the box of one and other."""
    keys, moments = sorted([one[0], other[0]]), sorted([one[1], other[1]])
    return keys[0] <= point[0] <= keys[1] and moments[0] <= point[1] <= moments[1]


def bare_one(points):
    """Two of the points that are neither in one row nor in one column and have no third, or None."""
    for one, other in itertools.combinations(points, 2):
        if one[0] != other[0] and one[1] != other[1]:
            if sum(in_the_box(point, one, other) for point in points) == 2:
                return one, other
    return None


def drawn_sets(seed, many):
    """Tuples (asks, points): lists of points that are filled and hold the asks, also keys that nobody asked."""
    source = random.Random(seed)
    for number in range(many):
        wide, high = source.choice([(2, 3), (4, 4), (6, 5), (9, 8)])
        keys = sorted(source.sample(range(31), wide))
        asks = [source.choice(keys[wide // 3:]) for moment in range(high)]
        points = {(key, moment) for moment, key in enumerate(asks)}
        points |= {(source.choice(keys), source.randrange(high)) for time in range(source.randrange(wide + high))}
        pair = bare_one(sorted(points))
        while pair is not None:
            one, other = pair
            points.add(source.choice([(one[0], other[1]), (other[0], one[1])]))
            pair = bare_one(sorted(points))
        yield asks, sorted(points)


def filled_masks(wide, high):
    """All filled sets of the keys below wide and the moments below high: bit moment * wide + key is the point's."""
    cells = [(key, moment) for moment in range(high) for key in range(wide)]
    bits = {cell: 1 << number for number, cell in enumerate(cells)}
    boxes = [(sum(bits[cell] for cell in cells if in_the_box(cell, one, other)), bits[one] | bits[other])
             for one, other in itertools.combinations(cells, 2) if one[0] != other[0] and one[1] != other[1]]
    return [mask for mask in range(1 << len(cells)) if all(mask & box != both for box, both in boxes)]


def fewest_points(masks, wide, asks):
    """How many points the least of the sets has that holds the asks."""
    held = sum(1 << moment * wide + key for moment, key in enumerate(asks))
    return min(mask.bit_count() for mask in masks if mask & held == held)


def short_asks(many, wide):
    """All asks, so many, of all the keys below wide, but those mirrored."""
    for asks in itertools.product(range(wide), repeat=many):
        if len(set(asks)) == wide and asks <= tuple(wide - 1 - key for key in asks):
            yield list(asks)
