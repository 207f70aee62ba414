"""Tops of a tree, and the tree turned by one."""

from thirdpoint.errors import NoTop
from thirdpoint.trees import is_tree, look_at_tree, rising


def parts_beneath(tree, keys):
    """What hangs beneath the nodes of these keys that are met from the root through others of them, in order."""
    if tree is None or tree[0] not in keys:
        return [tree]
    return parts_beneath(tree[1], keys) + parts_beneath(tree[2], keys)


def is_top(tree, thing):
    """Whether the thing, which may be anything, is a top of the tree."""
    look_at_tree(tree)
    if thing is None or not is_tree(thing):
        return False
    keys = rising(thing)
    # Each node that is met parts one place in two: all keys are met just where there is one part more.
    return len(parts_beneath(tree, keys)) == len(keys) + 1


def hung(top, parts):
    """The top with the parts, in order, in its empty places."""
    if top is None:
        return parts[0]
    key, left, right = top
    places = len(rising(left)) + 1
    return (key, hung(left, parts[:places]), hung(right, parts[places:]))


def turned(tree, top):
    """The tree with the top in the place of its nodes."""
    if not is_top(tree, top):
        raise NoTop("no top of the tree")
    return hung(top, parts_beneath(tree, rising(top)))
