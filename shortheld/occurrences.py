"""Where a pattern stands in a text."""

from shortheld.common import check_part, check_place
from shortheld.counts import counts_of
from shortheld.errors import Empty, NoPlace
from shortheld.sought import NOTHING, Sought
from shortheld.trees import Trees


def check_pattern(pattern):
    """Raise Empty for a pattern without letters."""
    if pattern.length == 0:
        raise Empty("the pattern has no letters")


def occurrences_around(pattern, text, place):
    """The tuple (first, step, count) of the occurrences of a pattern that cover a place of a text."""
    check_pattern(pattern)
    if not 0 <= place < text.length:
        raise NoPlace(place)
    if pattern.length > text.length:
        return NOTHING
    trees = Trees([pattern, text])
    sought = Sought(trees, trees.roots[0], 0, pattern.length)
    return sought.near(trees.roots[1], place - pattern.length + 1, place)


def next_occurrence(pattern, text, start):
    """The first occurrence of a pattern in a text that is at least start, None if there is none."""
    check_pattern(pattern)
    check_place(text, start)
    if start + pattern.length > text.length:
        return None
    counts = counts_of(pattern, text)
    number = counts.many_ahead(start)
    return counts.nth(number) if number < counts.total else None


def last_occurrence(pattern, text, stop):
    """The last occurrence of a pattern in a text that ends by stop, None if there is none."""
    check_pattern(pattern)
    check_place(text, stop)
    if pattern.length > stop:
        return None
    counts = counts_of(pattern, text)
    number = counts.many_ahead(stop - pattern.length + 1)
    return counts.nth(number - 1) if number else None


def count_occurrences(pattern, text, start, stop):
    """How many occurrences of a pattern lie within a part of a text."""
    check_pattern(pattern)
    check_part(text, start, stop)
    if pattern.length > stop - start:
        return 0
    counts = counts_of(pattern, text)
    return counts.many_ahead(stop - pattern.length + 1) - counts.many_ahead(start)


def nth_occurrence(pattern, text, number):
    """The occurrence of a pattern in a text with a number, None if there is none with this number."""
    check_pattern(pattern)
    if number < 0 or pattern.length > text.length:
        return None
    counts = counts_of(pattern, text)
    return counts.nth(number) if number < counts.total else None
