"""A desk that keeps Growers by names and answers rows of words."""

from thirdpoint.errors import NoName, NoRow, TooMany
from thirdpoint.fences import floor_of
from thirdpoint.fencing import fences_of
from thirdpoint.growing import Grower
from thirdpoint.leasts import least, served_by
from thirdpoint.sparing import thinned
from thirdpoint.texts import number_of, show_points, show_run, words_of

LETTERS = "abcdefghijklmnopqrstuvwxyz"
LONGEST_NAME = 8
MOST_NAMES = 20
GREATEST_MOST = 60


def in_one_row(text):
    """The text with `; ` for each line feed, or `-` where it has no signs."""
    return text.replace("\n", "; ") or "-"


def say_ask(grower, numbers):
    """The keys put in."""
    return words_of(grower.ask(numbers[0]))


def say_back(grower, numbers):
    """The key that is taken back."""
    return str(grower.back())


def say_asks(grower, numbers):
    """The asks."""
    return words_of(grower.asks())


def say_points(grower, numbers):
    """The Points."""
    return in_one_row(show_points(grower.points()))


def say_run(grower, numbers):
    """The run."""
    return in_one_row(show_run(grower.run()))


def say_many(grower, numbers):
    """How many points there are."""
    return str(len(grower.points()))


def say_floor(grower, numbers):
    """The floor of the told fences."""
    return str(floor_of(grower.asks(), fences_of(grower.asks())))


def say_least(grower, numbers):
    """The least number."""
    return str(least(grower.asks())[0])


def say_within(grower, numbers):
    """Whether so many points are enough."""
    return "yes" if served_by(grower.asks(), numbers[0])[0] == "served" else "no"


def say_thin(grower, numbers):
    """How many points are left, thinned."""
    return str(len(thinned(grower.asks(), grower.points())))


DEEDS = {"ask": say_ask, "back": say_back, "asks": say_asks, "points": say_points, "run": say_run, "many": say_many,
         "floor": say_floor, "least": say_least, "within": say_within, "thin": say_thin}


def is_name(word):
    """Whether the word is one to eight small letters."""
    return 1 <= len(word) <= LONGEST_NAME and all([sign in LETTERS for sign in word])


def fits(word, numbers):
    """Whether so many numbers, and such, stand behind the word and a name."""
    if word == "new":
        return True
    if word == "within":
        return len(numbers) == 1 and numbers[0] <= GREATEST_MOST
    if word == "ask":
        return len(numbers) == 1
    return numbers == [] and (word == "drop" or word in DEEDS)


def parts_of(row):
    """A tuple of the row's first word, the name and the numbers behind it; NoRow of what is no row of the desk."""
    words = row.split(" ") if isinstance(row, str) else []
    if words == ["names"]:
        return ("names", "", [])
    if len(words) < 2 or not is_name(words[1]):
        raise NoRow("no row that the desk knows")
    numbers = [number_of(word) for word in words[2:]]
    if None in numbers or not fits(words[0], numbers):
        raise NoRow("no row that the desk knows")
    return (words[0], words[1], numbers)


class Desk:
    """Growers, at most twenty, kept by names."""

    def __init__(self):
        self.kept = {}

    def say(self, row):
        """The answer to the row."""
        word, name, numbers = parts_of(row)
        if word == "names":
            return " ".join(sorted(self.kept)) or "-"
        if word == "new":
            return self.put(name, numbers)
        if name not in self.kept:
            raise NoName(name)
        if word == "drop":
            self.kept.pop(name)
            return "ok"
        deed = DEEDS[word]
        return deed(self.kept[name], numbers)

    def put(self, name, keys):
        """Keeps a new Grower, asked for the keys, by the name."""
        grower = Grower(keys or None)
        if name not in self.kept and len(self.kept) == MOST_NAMES:
            raise TooMany(MOST_NAMES + 1)
        self.kept[name] = grower
        return "ok"
