"""The refusals of the program.

No error's words show its values: a value may be anything at all, and showing it could fail.
"""


class PointError(ValueError):
    """What most refusals stand under."""


class NoPoints(PointError):
    """What was handed in is no list or tuple of points; number is that of the first wrong thing, or None."""

    def __init__(self, number):
        PointError.__init__(self, "no list or tuple of at most 200 points")
        self.number = number


class NoBox(PointError):
    """The two things one and other are no points with unlike keys and unlike moments."""

    def __init__(self, one, other):
        PointError.__init__(self, "no two points with unlike keys and unlike moments")
        self.one = one
        self.other = other


class NoAsks(PointError):
    """What was handed in is no list of asks; number is that of the first wrong thing, or None."""

    def __init__(self, number):
        PointError.__init__(self, "no list of 1 to 31 keys")
        self.number = number


class NoRun(PointError):
    """What was handed in is no run for the asks; moment is the first wrong one, or None."""

    def __init__(self, moment):
        PointError.__init__(self, "no run that serves the asks")
        self.moment = moment


class NoText(PointError):
    """What was handed in is no text of the kind that is read; row is the first wrong one."""

    def __init__(self, row):
        PointError.__init__(self, "no text that can be read")
        self.row = row


class NoTurn(PointError):
    """By the number last nothing can be turned."""

    def __init__(self, last):
        PointError.__init__(self, "no number by which this is turned")
        self.last = last


class NoTree(PointError):
    """What was handed in is no tree."""


class NoTop(PointError):
    """What was handed in is no top of the tree."""


class NotServed(PointError):
    """The Points do not serve the asks."""


class NoRow(PointError):
    """What was said to the desk is no row that it knows."""


class NoPoint(KeyError):
    """The thing point is not among the Points."""

    def __init__(self, point):
        KeyError.__init__(self, "no point among these")
        self.point = point


class NoName(KeyError):
    """By the name nothing is kept."""

    def __init__(self, name):
        KeyError.__init__(self, "nothing is kept by this name")
        self.name = name


class NoKey(LookupError):
    """The thing key is no key that can be asked."""

    def __init__(self, key):
        LookupError.__init__(self, "no key that can be asked")
        self.key = key


class NoBack(IndexError):
    """There is no ask that could be taken back."""


class TooMany(OverflowError):
    """More would come than may; many is how many."""

    def __init__(self, many):
        OverflowError.__init__(self, "more than there may be")
        self.many = many
