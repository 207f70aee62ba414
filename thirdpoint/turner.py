"""A tree that is kept and turned."""

from thirdpoint.asks import MOST_ASKS
from thirdpoint.errors import NoBack, NoKey, NoTop, TooMany
from thirdpoint.points import MOST_POINTS, is_key
from thirdpoint.runs import touched
from thirdpoint.texts import show_tree
from thirdpoint.tops import is_top, turned
from thirdpoint.trees import look_at_tree, rising, tree_by, way_to


def way_top(tree, key):
    """The top of the keys of the way to the key, with it as the root, the others as they stand on the way."""
    ranks = {met: place for place, met in enumerate(way_to(tree, key))}
    ranks[key] = -1
    return tree_by(ranks)


class Turner:
    """A tree that is asked for its keys, and turned by a top each time."""

    def __init__(self, tree):
        look_at_tree(tree)
        self.asked = []
        self.tops = []
        self.trees = [tree]

    def ask(self, key, top=None):
        """Asks for the key with the top, or with the way's top: told is how many nodes are touched."""
        tree = self.tree()
        if not is_key(key) or key not in rising(tree):
            raise NoKey(key)
        if top is None:
            top = way_top(tree, key)
        if not is_top(tree, top) or key not in rising(top):
            raise NoTop("no top of the tree that has the key")
        if len(self.asked) == MOST_ASKS:
            raise TooMany(MOST_ASKS + 1)
        many = len(rising(top))
        if self.cost() + many > MOST_POINTS:
            raise TooMany(self.cost() + many)
        self.asked.append(key)
        self.tops.append(top)
        self.trees.append(turned(tree, top))
        return many

    def back(self):
        """Takes the last ask back: told is its key."""
        if self.asked == []:
            raise NoBack("no ask to take back")
        self.tops.pop()
        self.trees.pop()
        return self.asked.pop()

    def tree(self):
        """The tree as it is."""
        return self.trees[-1]

    def asks(self):
        """The keys asked that aren't taken back."""
        return list(self.asked)

    def run(self):
        """The run from the tree at first."""
        return (self.trees[0], list(self.tops))

    def points(self):
        """The Points touched."""
        return touched(self.run())

    def cost(self):
        """How many nodes were touched in all."""
        return sum([len(rising(top)) for top in self.tops])

    def twin(self):
        """A new Turner with the same run and asks."""
        other = Turner(self.trees[0])
        for key, top in zip(self.asked, self.tops):
            other.ask(key, top)
        return other

    def __eq__(self, other):
        return isinstance(other, Turner) and self.asked == other.asked and self.run() == other.run()

    def __len__(self):
        return len(self.asked)

    def __str__(self):
        return f"{show_tree(self.tree())}"

    def __repr__(self):
        return f"Turner({show_tree(self.tree())})"
