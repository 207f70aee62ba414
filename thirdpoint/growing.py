"""Points that are grown ask by ask."""

from thirdpoint.asks import MOST_ASKS, look_at_asks
from thirdpoint.errors import NoBack, NoKey, TooMany
from thirdpoint.points import MOST_POINTS, Points, is_key
from thirdpoint.walking import run_of


def last_moments(rows):
    """From each key that stood to its last moment; the rows are the keys of each moment."""
    return {key: moment for moment, row in enumerate(rows) for key in row}


def later_ones(keys, last, bar):
    """Those of the keys whose last moment is later than the bar and than that of each key ahead of them."""
    found = []
    for key in keys:
        if last[key] > bar:
            found.append(key)
            bar = last[key]
    return found


def put_in(rows, asked):
    """The keys that come with the key asked behind the rows, rising."""
    last = last_moments(rows)
    bar = last.get(asked, -1)
    stood = sorted(last)
    # Walked away from the key asked on either side, so that what is between has been met.
    lesser = later_ones([key for key in stood[::-1] if key < asked], last, bar)
    greater = later_ones([key for key in stood if key > asked], last, bar)
    return lesser[::-1] + [asked] + greater


def grown_rows(asks):
    """The keys that are put in at each moment of the asks."""
    rows = []
    for key in asks:
        rows.append(put_in(rows, key))
    return rows


def points_in(rows):
    """The Points with the keys of each row at its moment."""
    return Points([(key, moment) for moment, row in enumerate(rows) for key in row])


class Grower:
    """Points grown by a rule that hangs on the asks up to each moment alone."""

    def __init__(self, asks=None):
        self.asked = []
        self.rows = []
        if asks is not None:
            look_at_asks(asks)
            for key in asks:
                self.ask(key)

    def ask(self, key):
        """Asks for the key: told are the keys put in, rising."""
        if not is_key(key):
            raise NoKey(key)
        if len(self.asked) == MOST_ASKS:
            raise TooMany(MOST_ASKS + 1)
        row = put_in(self.rows, key)
        many = sum([len(keys) for keys in self.rows]) + len(row)
        if many > MOST_POINTS:
            raise TooMany(many)
        self.asked.append(key)
        self.rows.append(row)
        return list(row)

    def back(self):
        """Takes the last ask back: told is its key."""
        if self.asked == []:
            raise NoBack("no ask to take back")
        self.rows.pop()
        return self.asked.pop()

    def asks(self):
        """The keys asked that aren't taken back."""
        return list(self.asked)

    def points(self):
        """The Points grown by now."""
        return points_in(self.rows)

    def run(self):
        """The run that touches just the Points."""
        return run_of(self.asked, self.points())

    def twin(self):
        """A new Grower with the same asks."""
        return Grower(self.asks() or None)

    def __eq__(self, other):
        return isinstance(other, Grower) and self.asked == other.asked

    def __len__(self):
        return len(self.asked)
