"""Searching trees: None, or tuples (key, left, right)."""

from thirdpoint.errors import NoTree
from thirdpoint.points import LAST_KEY, is_key


def is_between(thing, low, high):
    """Whether the thing, which may be anything, is a tree whose keys are all between low and high."""
    if thing is None:
        return True
    if not isinstance(thing, tuple) or len(thing) != 3:
        return False
    key, left, right = thing
    # Each key narrows what may stand beneath it, so whatever is nested, no more than a tree is walked.
    return is_key(key) and low < key < high and is_between(left, low, key) and is_between(right, key, high)


def is_tree(thing):
    """Whether the thing, which may be anything, is a tree."""
    return is_between(thing, -1, LAST_KEY + 1)


def look_at_tree(thing):
    """None, or NoTree of what is no tree."""
    if not is_tree(thing):
        raise NoTree("no tree of at most 31 keys in order")


def rising(tree):
    """The keys, rising, of what is known to be a tree."""
    if tree is None:
        return []
    key, left, right = tree
    return rising(left) + [key] + rising(right)


def keys_of(tree):
    """The keys of the tree, rising."""
    look_at_tree(tree)
    return rising(tree)


def levels(tree):
    """How deep what is known to be a tree goes."""
    if tree is None:
        return 0
    return 1 + max(levels(tree[1]), levels(tree[2]))


def depth(tree):
    """How many nodes stand one beneath another on the tree's longest way."""
    look_at_tree(tree)
    return levels(tree)


def way_to(tree, key):
    """The keys from the root to the key, or to the last one met where it isn't in the tree."""
    look_at_tree(tree)
    way = []
    while tree is not None:
        met, left, right = tree
        way.append(met)
        if met == key:
            break
        tree = left if key < met else right
    return way


def tree_by(ranks):
    """The tree by ranks: the root is the key with the least rank, of those alike the least key."""
    if len(ranks) == 0:
        return None
    root = min(list(ranks), key=lambda key: (ranks[key], key))
    lesser = {key: rank for key, rank in ranks.items() if key < root}
    greater = {key: rank for key, rank in ranks.items() if key > root}
    return (root, tree_by(lesser), tree_by(greater))
