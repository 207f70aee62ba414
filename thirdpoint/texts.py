"""Trees, asks, Points and runs as texts."""

from thirdpoint.asks import MOST_ASKS, look_at_asks
from thirdpoint.errors import NoText
from thirdpoint.points import LAST_KEY, MOST_POINTS, Points, is_key
from thirdpoint.tops import is_top, turned
from thirdpoint.trees import look_at_tree

FIGURES = "0123456789"


def words_of(keys):
    """The keys, parted by blanks, or `-` where there are none."""
    return " ".join([str(key) for key in keys]) or "-"


def tree_text(tree):
    """The text of what is known to be a tree."""
    if tree is None:
        return "."
    key, left, right = tree
    return f"({key} {tree_text(left)} {tree_text(right)})"


def show_tree(tree):
    """The tree as a text."""
    look_at_tree(tree)
    return tree_text(tree)


def show_asks(asks):
    """The asks as a text."""
    look_at_asks(asks)
    return words_of(asks)


def show_points(points):
    """The Points as a text, a row for each moment."""
    last = max(points.all_moments(), default=-1)
    return "\n".join([words_of(points.keys_at(moment)) for moment in range(last + 1)])


def show_run(run):
    """The run as a text: its tree and its tops, a row for each."""
    tree, tops = run
    return "\n".join([tree_text(part) for part in [tree] + tops])


def number_of(word):
    """The number that the word tells in figures without a nought ahead, or None."""
    if word == "" or (word[0] == "0" and word != "0"):
        return None
    number = 0
    for sign in word:
        if sign not in FIGURES:
            return None
        number = 10 * number + FIGURES.index(sign)
    return number


def keys_in(row):
    """The keys that are told in the row, parted by blanks, or None of what is no such row."""
    keys = [number_of(word) for word in row.split(" ")]
    return keys if all([is_key(key) for key in keys]) else None


def look_at_text(thing):
    """None, or NoText of what is no text."""
    if not isinstance(thing, str):
        raise NoText(0)


def look_at_sign(text, place, sign):
    """None, or NoText where the text has another sign at the place."""
    if text[place:place + 1] != sign:
        raise NoText(0)


def part_at(text, start, low, high):
    """The tree that the text tells from start on, all its keys between low and high, and the place behind it."""
    if text[start:start + 1] == ".":
        return (None, start + 1)
    look_at_sign(text, start, "(")
    word = text[start + 1:].partition(" ")[0]
    key = number_of(word)
    # Each key narrows what may stand beneath it, so however deep the brackets go, no more than a tree is walked.
    if key is None or not low < key < high:
        raise NoText(0)
    place = start + 1 + len(word)
    look_at_sign(text, place, " ")
    left, place = part_at(text, place + 1, low, key)
    look_at_sign(text, place, " ")
    right, place = part_at(text, place + 1, key, high)
    look_at_sign(text, place, ")")
    return ((key, left, right), place + 1)


def read_tree(text):
    """The tree that the text, which may be anything, tells."""
    look_at_text(text)
    tree, place = part_at(text, 0, -1, LAST_KEY + 1)
    if place != len(text):
        raise NoText(0)
    return tree


def read_asks(text):
    """The asks that the text, which may be anything, tells."""
    look_at_text(text)
    asks = keys_in(text)
    if asks is None or len(asks) > MOST_ASKS:
        raise NoText(0)
    return asks


def keys_of_row(row, number, many):
    """The keys of the row with this number, many points being ahead of it; NoText where no Points begin so."""
    keys = [] if row == "-" else keys_in(row)
    if keys is None or keys != sorted(set(keys)):
        raise NoText(number)
    # Behind a row without keys another one must come, with a key at least.
    lacking = 1 if keys == [] else 0
    if number + lacking > LAST_KEY or many + len(keys) + lacking > MOST_POINTS:
        raise NoText(number)
    return keys


def read_points(text):
    """The Points that the text, which may be anything, tells."""
    look_at_text(text)
    if text == "":
        return Points()
    rows = text.split("\n")
    points = []
    for moment, row in enumerate(rows):
        points.extend([(key, moment) for key in keys_of_row(row, moment, len(points))])
    if rows[-1] == "-":
        raise NoText(len(rows))
    return Points(points)


def tree_of_row(row, number):
    """The tree that the row with this number tells, which is not None."""
    try:
        tree = read_tree(row)
    except NoText:
        raise NoText(number) from None
    if tree is None:
        raise NoText(number)
    return tree


def read_run(text):
    """The run that the text, which may be anything, tells."""
    look_at_text(text)
    first, *rows = text.split("\n")
    tree = first_tree = tree_of_row(first, 0)
    tops = []
    for row in rows:
        number = len(tops) + 1
        top = tree_of_row(row, number)
        if number > MOST_ASKS or not is_top(tree, top):
            raise NoText(number)
        tops.append(top)
        tree = turned(tree, top)
    if tops == []:
        raise NoText(1)
    return (first_tree, tops)
