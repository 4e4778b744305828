"""Each call for great texts of 60 rules ends within a few seconds, and without deep recursion."""

import sys
import time
import unittest

from shortheld.common import (common_from, common_to, compare, first_difference, mismatches, same, stretch,
                              turned)
from shortheld.occurrences import (count_occurrences, last_occurrence, next_occurrence, nth_occurrence,
                                   occurrences_around)
from shortheld.ordering import Shelf, beginners, beginnings, begins_with, ordering
from shortheld.overlaps import overlaps_of
from shortheld.palindromes import is_palindrome, palindrome_at, stretch_at
from shortheld.periods import commute, is_period, least_period, periods_of, primitive_root, rotation_of
from shortheld.progressions import cut
from shortheld.stretches import stretch_around
from shortheld.text import Text
from tests.great import MOST, great_rules, hard_rules, swapped, words_joined
from tests.helpers import rng_of, size_made

SECONDS = 3
DEEP = 150


def parts_of_parts():
    """Rules of a text that is doubled, turned round, and cut again and again."""
    rules, size = [("letters", "abacabadabacabae" * 4)], 64
    for _ in range(13):
        last = len(rules) - 1
        rules += [("back", last), ("join", last, last + 1), ("power", last + 2, 3),
                  ("part", last + 3, size // 7, 6 * size - size // 5)]
        size = 6 * size - size // 5 - size // 7
    return rules


def powers_of_powers():
    """Rules of a text of powers, each with a letter put behind it."""
    rules = [("letters", letter) for letter in "abcdef"]
    sizes = [1] * 6
    for number in range(27):
        last = len(rules) - 1
        rules += [("power", last, 2 + number % 2), ("join", last + 1, number % 6)]
        sizes += [size_made(rules[-2], sizes)]
        sizes += [size_made(rules[-1], sizes)]
    return rules


def great_texts():
    kinds = [words_joined(56), swapped(28), parts_of_parts(), powers_of_powers(),
             [("letters", "a")] + [("power", number, 2) for number in range(39)],
             [("letters", "ab"), ("power", 0, MOST // 2)]]
    for seed in range(100, 104):
        kinds += [hard_rules(rng_of(seed)), great_rules(rng_of(seed))]
    texts = [Text(rules) for rules in kinds]
    return [text for text in texts if text.length > 10 ** 5]


class TestTime(unittest.TestCase):
    def timed(self, function, *told, **more):
        start = time.monotonic()
        found = function(*told, **more)
        self.assertLess(time.monotonic() - start, SECONDS, (function.__name__, told))
        return found

    def check_common(self, first, second):
        for left, right in ((0, 0), (first.length, second.length), (first.length // 3, second.length // 2)):
            self.timed(common_from, first, left, second, right)
            self.timed(common_to, first, left, second, right)
        for function in (same, first_difference, compare):
            self.timed(function, first, second)
        short, long = (first, second) if first.length <= second.length else (second, first)
        self.timed(mismatches, short, long, (long.length - short.length) // 2)
        self.timed(mismatches, short, long, 0, limit=1000)

    def check_occurrences(self, pattern, text):
        size = text.length
        total = self.timed(count_occurrences, pattern, text, 0, size)
        self.timed(count_occurrences, pattern, text, size // 7, size - size // 9)
        self.timed(occurrences_around, pattern, text, size // 2)
        self.timed(next_occurrence, pattern, text, size // 2)
        self.timed(last_occurrence, pattern, text, size // 2)
        self.timed(nth_occurrence, pattern, text, total // 2)

    def check_periods(self, text):
        size = text.length
        for function in (least_period, periods_of, primitive_root, is_palindrome):
            self.timed(function, text)
        for number in (1, size // 3, size):
            self.timed(is_period, text, number)
        for start, stop in ((0, size), (size // 3, size // 2), (size // 2, size // 2 + 20), (size // 9, size - size // 9)):
            self.timed(stretch_around, text, start, stop)
        for centre in (1, size, size + size // 3, 2 * size - 1):
            self.timed(palindrome_at, text, centre)
            self.timed(stretch_at, text, centre)

    def check_two(self, first, second):
        for function in (commute, rotation_of, begins_with):
            self.timed(function, first, second)

    def test_great_enough(self):
        sizes = [text.length for text in great_texts()]
        self.assertGreater(len([size for size in sizes if size > 10 ** 11]), 4)
        self.assertEqual(len([text for text in great_texts() if len(text.rules) > 50]), 8)

    def test_one_text(self):
        for text in great_texts():
            size = text.length
            self.check_common(text, turned(text))
            self.check_periods(text)
            self.check_two(text, turned(text))
            self.check_two(text, text)
            self.timed(overlaps_of, text, text)
            self.timed(overlaps_of, text, stretch(text, size // 3, size - size // 5))
            for start, stop in ((size // 2, size // 2 + 3), (size // 3, size // 3 + 1000), (size // 9, size // 2)):
                self.check_occurrences(stretch(text, start, min(size, stop)), text)

    def test_two_texts(self):
        texts = great_texts()
        for first, second in zip(texts, texts[1:] + texts[:1]):
            self.check_common(first, second)
            self.check_two(first, second)
            self.timed(overlaps_of, first, second)
            self.check_occurrences(first, second)
            self.check_occurrences(stretch(second, 0, min(5, second.length)), first)

    def test_many_texts(self):
        texts = great_texts()
        texts += [stretch(text, 0, text.length - text.length // 5) for text in texts]
        self.timed(ordering, texts)
        self.timed(beginnings, texts)
        self.timed(beginners, texts, stretch(texts[0], 0, texts[0].length // 2))
        shelf = Shelf()
        for text in texts:
            self.timed(shelf.put, text)
        for text in texts:
            for function in (shelf.place, shelf.holds, shelf.drop):
                self.timed(function, text)
            self.timed(shelf.between, text, turned(text))

    def test_many_rows(self):
        rows = [(7 * number, 1, 3) for number in range(20000)]
        start = time.monotonic()
        self.assertEqual(cut(rows), tuple(rows))
        self.assertEqual(cut([(0, 1, MOST), (MOST, 1, MOST)]), ((0, 1, 2 * MOST),))
        self.assertLess(time.monotonic() - start, SECONDS)


class TestDepth(unittest.TestCase):
    def test_without_deep_recursion(self):
        texts = great_texts()
        depth, frame = 0, sys._getframe()
        while frame is not None:
            depth, frame = depth + 1, frame.f_back
        before = sys.getrecursionlimit()
        sys.setrecursionlimit(depth + DEEP)
        try:
            for text in texts:
                part = stretch(text, text.length // 3, text.length // 2)
                compare(text, turned(text))
                overlaps_of(text, part)
                ordering([text, part])
                if part.length:
                    periods_of(part)
                    rotation_of(part, turned(part))
                    stretch_around(text, text.length // 3, text.length // 2)
                    count_occurrences(part, text, 0, text.length)
        finally:
            sys.setrecursionlimit(before)
