"""D5: the greatest stretch around a part that has the least period of the part."""

import unittest

from shortheld.common import common_from, common_to, stretch, turned
from shortheld.errors import HeldError, NoPart
from shortheld.periods import is_period, least_period
from shortheld.stretches import stretch_around
from shortheld.text import Text
from tests import slow
from tests.great import MANY, MOST, kinds_of_rules, retold
from tests.helpers import rng_of
from tests.ways import by_rules, letters, random_text, repeated, short_strings, ways

FAR = 10 ** 11


class TestSmallTexts(unittest.TestCase):
    def check(self, text, string):
        for start in range(len(string)):
            for stop in range(start + 1, len(string) + 1):
                found = stretch_around(text, start, stop)
                self.assertEqual(found, slow.stretch_around(string, start, stop), (string, start, stop))
                self.assertTrue(found is None or isinstance(found, tuple))

    def test_examples(self):
        self.assertEqual(stretch_around(letters("cabababad"), 2, 6), (2, 1, 8))
        self.assertIsNone(stretch_around(letters("cabababad"), 1, 4))

    def test_all_short_texts(self):
        for string in short_strings("ab", 6):
            self.check(letters(string), string)
        for string in short_strings("abc", 4):
            self.check(by_rules(string), string)

    def test_words_again_and_again(self):
        for seed in range(40):
            string = "xy"[seed % 3:] + repeated(seed, 16) + "ba"[seed % 3:]
            for text in ways(string):
                self.check(text, string)

    def test_texts_by_rules(self):
        for seed in range(60):
            self.check(*random_text(seed, 20, ("a", "ab", "abc")[seed % 3]))

    def test_parts_that_are_short_for_their_period(self):
        """A part of one letter less than twice its period has none, a part of twice its period has one."""
        for word in ("ab", "aab", "abcab", "abacaba"):
            text = letters("x" + word * 4 + "y")
            for start in range(1, len(word)):
                self.assertIsNone(stretch_around(text, start, start + 2 * len(word) - 1))
                self.assertEqual(stretch_around(text, start, start + 2 * len(word)),
                                 (len(word), 1, 1 + 4 * len(word)))

    def test_one_letter(self):
        for place in range(4):
            self.assertIsNone(stretch_around(letters("aaaa"), place, place + 1))
            self.assertIsNone(stretch_around(by_rules("abca"), place, place + 1))
        self.assertEqual(stretch_around(letters("aaaa"), 1, 3), (1, 0, 4))
        self.assertEqual(stretch_around(letters("baab"), 1, 3), (1, 1, 3))

    def test_both_ends_of_the_text(self):
        for text in ways("abababa"):
            self.assertEqual(stretch_around(text, 2, 6), (2, 0, 7))
            self.assertEqual(stretch_around(text, 0, 7), (2, 0, 7))
            self.assertEqual(stretch_around(text, 0, 4), (2, 0, 7))
            self.assertEqual(stretch_around(text, 3, 7), (2, 0, 7))


class TestNoPart(unittest.TestCase):
    def test_no_part(self):
        for text in (letters("abab"), Text([("letters", "ab"), ("power", 0, 2)])):
            for start, stop in ((-1, 3), (-2, -1), (0, 5), (3, 2), (4, 0), (5, 6), (-1, 10 ** 12), (10 ** 12, 0)):
                self.check(text, start, stop)

    def test_a_part_without_letters(self):
        for place in range(5):
            self.check(letters("abab"), place, place)
        for text in (letters(""), Text([("letters", "ab"), ("power", 0, 0)])):
            self.check(text, 0, 0)
            self.check(text, 0, 1)

    def check(self, text, start, stop):
        with self.assertRaises(NoPart) as caught:
            stretch_around(text, start, stop)
        self.assertEqual((caught.exception.start, caught.exception.stop), (start, stop))
        self.assertIsInstance(caught.exception, HeldError)


class TestGreatTexts(unittest.TestCase):
    def test_a_power_between_letters(self):
        rules = [("letters", "aab"), ("power", 0, FAR), ("letters", "xa"), ("join", 2, 1), ("letters", "aax"), ("join", 3, 4)]
        text, end = Text(rules), 3 * FAR + 5
        for other in (text, Text.made(retold(rules))):
            for start, stop in ((2, 8), (5, 3 * FAR), (FAR, FAR + 6), (FAR, 2 * FAR), (2, end - 1), (3 * FAR - 6, 3 * FAR)):
                self.assertEqual(stretch_around(other, start, stop), (3, 2, end - 1), (start, stop))
            self.assertEqual(stretch_around(other, 1, 3), (1, 1, 4))
            self.assertIsNone(stretch_around(other, 1, 3 * FAR))
            self.assertIsNone(stretch_around(other, FAR, FAR + 5))
            self.assertIsNone(stretch_around(other, 0, end))
            self.assertIsNone(stretch_around(other, end - 3, end))

    def test_one_letter(self):
        text = Text([("letters", "a"), ("power", 0, MOST)])
        for start, stop in ((0, 2), (0, MOST), (FAR, 2 * FAR), (MOST - 2, MOST)):
            self.assertEqual(stretch_around(text, start, stop), (1, 0, MOST))
        self.assertIsNone(stretch_around(text, MOST - 1, MOST))

    def test_powers_of_powers(self):
        """(ab 1000 times and c) a million times: periods of two sizes."""
        text = Text([("letters", "ab"), ("power", 0, 1000), ("letters", "c"), ("join", 1, 2), ("power", 3, 10 ** 6)])
        size = text.length
        self.assertEqual(stretch_around(text, 10, 20), (2, 0, 2000))
        self.assertEqual(stretch_around(text, 2001 * 5 + 10, 2001 * 5 + 20), (2, 2001 * 5, 2001 * 5 + 2000))
        self.assertEqual(stretch_around(text, 100, 100 + 4002), (2001, 0, size))
        self.assertIsNone(stretch_around(text, 100, 100 + 4001))
        self.assertEqual(stretch_around(text, 100, size - 100), (2001, 0, size))

    def test_what_is_told_has_the_period(self):
        for seed, rules in kinds_of_rules(10):
            rng, text = rng_of(seed), Text(rules)
            if text.length > 100:
                for _ in range(4):
                    start = rng.randrange(text.length - 2)
                    stop = start + rng.randint(2, min(text.length - start, rng.choice((4, 30, 10 ** 4, MANY))))
                    self.check(text, start, stop)

    def check(self, text, start, stop):
        part, found = stretch(text, start, stop), stretch_around(text, start, stop)
        period = least_period(part)
        self.assertEqual(found is None, stop - start < 2 * period)
        self.assertEqual(found, stretch_around(Text.made(retold(text.rules)), start, stop))
        if found is not None:
            self.assertEqual(found[0], period)
            low, high = found[1:]
            self.assertTrue(low <= start and stop <= high)
            self.assertTrue(is_period(stretch(text, low, high), period))
            self.assertTrue(low == 0 or common_to(text, low, text, low + period) == 0)
            self.assertTrue(high == text.length or common_from(text, high, text, high - period) == 0)
            size = text.length
            self.assertEqual(stretch_around(turned(text), size - stop, size - start), (period, size - high, size - low))

    def test_squares_put_in(self):
        for seed, rules in kinds_of_rules(10):
            if 0 < Text(rules).length <= MOST // 4:
                last = len(rules) - 1
                text = Text.made([*rules, ("power", last, 2), ("letters", "~"), ("join", last + 1, last + 2),
                                  ("join", last + 2, last + 3)])
                size = (text.length - 2) // 2
                period, low, high = stretch_around(text, 1, 1 + 2 * size)
                self.assertEqual((low, high), (1, 1 + 2 * size))
                self.assertEqual(size % period, 0)
                self.assertEqual(period, least_period(stretch(text, 1, 1 + 2 * size)))
