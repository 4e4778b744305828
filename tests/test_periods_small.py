"""D1 to D4 on small texts: each number tried letter by letter."""

import unittest

from shortheld.errors import Empty, HeldError
from shortheld.periods import commute, is_period, least_period, periods_of, primitive_root, rotation_of
from shortheld.text import Text
from tests import slow
from tests.helpers import all_made, random_rules, rng_of
from tests.ways import by_rules, letters, random_text, repeated, short_strings, string_of, ways

EMPTY = (letters(""), Text([("letters", "ab"), ("power", 0, 0)]), Text([("letters", "ab"), ("part", 0, 1, 1)]))


class TestPeriods(unittest.TestCase):
    def check(self, text, string):
        want = slow.periods(string)
        self.assertEqual(least_period(text), want[0], string)
        self.assertEqual(periods_of(text), slow.cut(want), string)
        self.assertEqual(primitive_root(text), slow.root(string), string)
        for number in (*range(-2, len(string) + 3), -10 ** 12, 10 ** 12, 2 * 10 ** 12):
            self.assertIs(is_period(text, number), number in want, (string, number))

    def test_examples(self):
        self.assertEqual(periods_of(letters("aabaabaa")), ((3, 3, 2), (7, 1, 2)))
        self.assertEqual(primitive_root(letters("ababab")), (2, 3))

    def test_all_short_texts(self):
        for string in short_strings("ab", 7)[1:]:
            self.check(letters(string), string)
        for string in short_strings("abc", 4)[1:]:
            self.check(by_rules(string), string)

    def test_kinds_of_values(self):
        found = periods_of(letters("aabaabaa"))
        self.assertIsInstance(found, tuple)
        self.assertTrue(all(isinstance(row, tuple) for row in found))
        self.assertIsInstance(primitive_root(letters("abab")), tuple)

    def test_one_letter(self):
        for size in (1, 2, 3, 4, 7, 8, 30):
            for text in ways("a" * size):
                self.check(text, "a" * size)
        self.assertEqual(periods_of(letters("a")), ((1, 0, 1),))
        self.assertEqual(periods_of(letters("aaaa")), ((1, 1, 4),))

    def test_powers_and_beginnings_behind_them(self):
        for word in ("ab", "aab", "aabaa", "abcab", "aaab", "abaab"):
            for times in (1, 2, 3, 8):
                for size in range(len(word)):
                    for text in ways(word * times + word[:size]):
                        self.check(text, word * times + word[:size])

    def test_parts_of_powers(self):
        for seed in range(250):
            string = repeated(seed)
            if string:
                self.check(letters(string), string)
                self.check(by_rules(string[:63][::-1]), string[:63][::-1])

    def test_texts_by_rules(self):
        for seed in range(400):
            text, string = random_text(seed, (12, 60, 200)[seed % 3], ("a", "ab", "abc")[seed // 3 % 3])
            if string:
                self.check(text, string)
                self.check(Text.made([*text.rules, ("back", len(text.rules) - 1)]), string[::-1])

    def test_all_texts_by_the_same_rules(self):
        for seed in range(20):
            rules = random_rules(rng_of(seed), 60, 100, "ab")
            for number, string in enumerate(all_made(rules)):
                if string:
                    self.check(Text(rules[:number + 1]), string)

    def test_empty(self):
        for text in EMPTY:
            for told in ((least_period, text), (periods_of, text), (primitive_root, text), (is_period, text, 0),
                         (is_period, text, 1), (is_period, text, -1)):
                with self.assertRaises(Empty) as caught:
                    told[0](*told[1:])
                self.assertIsInstance(caught.exception, HeldError)

    def test_arguments_stay_as_they_were(self):
        text, other = Text([["letters", "ab"], ["power", 0, 3]]), letters("bababa")
        before = (dict(vars(text)), dict(vars(other)))
        for function in (least_period, periods_of, primitive_root):
            function(text)
        is_period(text, 2)
        commute(text, other)
        rotation_of(text, other)
        self.assertEqual((vars(text), vars(other)), before)


class TestCommute(unittest.TestCase):
    def check(self, first, string, second, other):
        self.assertIs(commute(first, second), string + other == other + string, (string, other))
        self.assertIs(commute(second, first), string + other == other + string)

    def test_all_short_texts(self):
        strings = short_strings("ab", 4)
        for string in strings:
            for other in strings:
                self.check(letters(string), string, by_rules(other), other)

    def test_powers_of_one_word_and_of_two(self):
        for word in ("a", "ab", "aab", "abaab"):
            for other in ("a", "ab", "aab", "abaab", "ba"):
                for times in ((0, 3), (1, 1), (2, 3), (4, 6), (7, 1)):
                    first, second = word * times[0], other * times[1]
                    self.check(by_rules(first), first, letters(second), second)

    def test_parts_of_powers(self):
        for word in ("ab", "aab"):
            for size in range(1, 12):
                for many in range(1, 12):
                    first, second = (word * 6)[:size], (word * 6)[:many]
                    self.check(letters(first), first, letters(second), second)

    def test_empty_texts(self):
        for text in EMPTY:
            for other in (*EMPTY, letters("ab"), by_rules("aba")):
                self.assertIs(commute(text, other), True)
                self.assertIs(commute(other, text), True)

    def test_texts_by_rules(self):
        for seed in range(200):
            first, string = random_text(seed, 40, ("a", "ab")[seed % 2])
            second, other = random_text(seed + 1000, 40, ("a", "ab")[seed % 2])
            self.check(first, string, second, other)
            self.check(first, string, Text.of_letters(string), string)
            self.check(Text.made([*first.rules, ("power", len(first.rules) - 1, 3)]), string * 3, first, string)


class TestRotations(unittest.TestCase):
    def check(self, first, string, second, other):
        self.assertEqual(rotation_of(first, second), slow.rotation(string, other), (string, other))

    def test_example(self):
        self.assertEqual(rotation_of(letters("abcab"), letters("ababc")), 3)

    def test_all_short_texts(self):
        strings = short_strings("ab", 5)
        for string in strings:
            for other in strings:
                if len(string) == len(other):
                    self.check(letters(string), string, by_rules(other), other)

    def test_each_rotation(self):
        for seed in range(40):
            text, string = random_text(seed, 40, ("ab", "abc")[seed % 2])
            for number in range(len(string)):
                other = string[number:] + string[:number]
                self.check(text, string, letters(other), other)
                self.assertIsNone(rotation_of(text, letters(other[:-1] + "~")))

    def test_the_least_of_several(self):
        for word in ("a", "ab", "aab", "abcab"):
            for times in (1, 2, 3, 7):
                string = word * times
                for number in range(len(string)):
                    other = string[number:] + string[:number]
                    for text in ways(string):
                        self.assertEqual(rotation_of(text, by_rules(other)), number % len(word))

    def test_different_lengths(self):
        for string, other in (("ab", "abab"), ("a", "aa"), ("", "a"), ("abc", "ab")):
            self.assertIsNone(rotation_of(letters(string), by_rules(other)))
            self.assertIsNone(rotation_of(by_rules(other), letters(string)))

    def test_no_rotation(self):
        for string, other in (("ab", "aa"), ("aabb", "abab"), ("abc", "acb"), ("abcd", "dcba"), ("ab", "cd")):
            self.assertIsNone(rotation_of(letters(string), by_rules(other)))

    def test_empty_texts(self):
        for text in EMPTY:
            for other in EMPTY:
                self.assertEqual(rotation_of(text, other), 0)

    def test_rotated_back(self):
        for seed in range(100):
            text, string = random_text(seed, 60)
            if string:
                number = rng_of(seed).randrange(len(string))
                last = len(text.rules) - 1
                rotated = Text.made([*text.rules, ("part", last, 0, number), ("part", last, number, len(string)),
                                     ("join", last + 2, last + 1)])
                self.check(text, string, rotated, string_of(rotated))
                self.check(rotated, string_of(rotated), text, string)
