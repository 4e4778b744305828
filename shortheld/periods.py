"""The periods of texts, and what follows from them: roots, texts that commute, rotations."""

from shortheld.common import common_from
from shortheld.errors import Empty
from shortheld.overlaps import Overlaps
from shortheld.progressions import cut
from shortheld.sought import NOTHING, Sought
from shortheld.text import Text
from shortheld.trees import Trees


def check_letters(text):
    """Raise Empty for a text without letters."""
    if text.length == 0:
        raise Empty("the text has no letters")


def least_period(text):
    """The least period of a text."""
    check_letters(text)
    trees = Trees([text])
    return least_period_in(trees, trees.roots[0])


def least_period_in(trees, root):
    """The least period of the text of a root of a store."""
    overlaps = Overlaps(trees, root, root)
    for size in reversed(overlaps.sizes):
        row = periods_by(overlaps.from_size(size), overlaps.end)
        if row[2]:
            return row[0]
    return overlaps.end


def periods_by(row, length):
    """The progression of the periods that so many letters have by a progression of their overlaps with themselves.

    An overlap of some letters is a period of all the others; the overlap of all of them is none.
    """
    first, step, count = row
    if count and first + step * (count - 1) == length:
        count -= 1
    if count == 0:
        return NOTHING
    return (length - first - step * (count - 1), step if count > 1 else 0, count)


def is_period(text, number):
    """Whether a number is a period of a text."""
    check_letters(text)
    if not 1 <= number <= text.length:
        return False
    return common_from(text, 0, text, number) == text.length - number


def periods_of(text):
    """The tuple of the progressions of all periods of a text."""
    check_letters(text)
    trees = Trees([text])
    overlaps = Overlaps(trees, trees.roots[0], trees.roots[0])
    rows = [periods_by(overlaps.from_size(size), text.length) for size in reversed(overlaps.sizes)]
    rows.append((text.length, 0, 1))
    return cut([row for row in rows if row[2]])


def primitive_root(text):
    """The length of the root of a text, and the exponent of the power of the root that it is."""
    period = least_period(text)
    if text.length % period:
        return (text.length, 1)
    return (period, text.length // period)


def commute(first, second):
    """Whether two texts, one behind the other, make the same letters in both orders."""
    if first.length == 0 or second.length == 0:
        return True
    trees = Trees([first, second])
    root, other = trees.roots
    # What is read first stands at the end of a line.
    many = trees.read_forwards([(other, 1), (root, 1)], [(root, 1), (other, 1)])
    return many == first.length + second.length


def rotation_of(first, second):
    """The least number of letters of the first text that make the second one when they are put behind the others."""
    if first.length != second.length:
        return None
    if first.length == 0:
        return 0
    twice = Text.made([*first.rules, ("power", len(first.rules) - 1, 2)])
    trees = Trees([second, twice])
    sought = Sought(trees, trees.roots[0], 0, second.length)
    return sought.near(trees.roots[1], 0, first.length - 1)[0]
