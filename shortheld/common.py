"""Where texts differ, what they have in common, and which comes first."""

from shortheld.errors import NoPart, NoPlace
from shortheld.text import Text, is_part
from shortheld.trees import Trees


def check_place(text, place):
    """Raise NoPlace for a place that is neither one of a text nor its length."""
    if not 0 <= place <= text.length:
        raise NoPlace(place)


def check_part(text, start, stop):
    """Raise NoPart for a part that a text does not have."""
    if not is_part(start, stop, text.length):
        raise NoPart(start, stop)


def common_from(first, start, second, at):
    """The common beginning of two texts from two places on."""
    check_place(first, start)
    check_place(second, at)
    if start == first.length or at == second.length:
        return 0
    trees = Trees([first, second])
    return trees.common_from(trees.roots[0], start, trees.roots[1], at)


def common_to(first, stop, second, at):
    """The common ending of two texts up to two places."""
    check_place(first, stop)
    check_place(second, at)
    if stop == 0 or at == 0:
        return 0
    trees = Trees([first, second])
    return trees.common_to(trees.roots[0], stop, trees.roots[1], at)


def same(first, second):
    """Whether two texts have the same letters."""
    return first.length == second.length and first_difference(first, second) is None


def first_difference(first, second):
    """The first place at which two texts differ, None if they are the same."""
    trees = Trees([first, second])
    return trees.difference(trees.roots[0], trees.roots[1])


def compare(first, second):
    """-1 if the first text comes ahead of the second one, 1 if it comes behind it, 0 if they are the same."""
    trees = Trees([first, second])
    return trees.order(trees.roots[0], trees.roots[1])


def mismatches(pattern, text, place, *, limit=16):
    """The first places, so many of them at most, at which a pattern misses that is laid at a place of a text.

    None if it does not lie within the text there.
    """
    check_place(text, place)
    if place + pattern.length > text.length:
        return None
    if pattern.length == 0:
        return ()
    trees = Trees([pattern, text])
    return misses_of(trees, trees.line_from(trees.roots[0], 0), trees.line_from(trees.roots[1], place), limit)


def misses_of(trees, line, other, limit):
    """The first places, so many of them at most, at which a line differs from one that is not shorter."""
    found = []
    place = 0
    while len(found) < limit:
        place += trees.read_forwards(line, other)
        if not line:
            break
        found.append(place)
        place += 1
        leave_letter(line)
        leave_letter(other)
    return tuple(found)


def leave_letter(line):
    """Read the letter with which a line goes on."""
    letter, times = line.pop()
    if times > 1:
        line.append((letter, times - 1))


def stretch(text, start, stop):
    """A text of a part of the letters of a text."""
    return Text.made([*text.rules, ("part", len(text.rules) - 1, start, stop)])


def turned(text):
    """A text with the letters of a text, the last one first."""
    return Text.made([*text.rules, ("back", len(text.rules) - 1)])
