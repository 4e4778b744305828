"""C1 to C3 on small texts: where two texts differ, counted letter by letter."""

import unittest

from shortheld.common import (common_from, common_to, compare, first_difference, mismatches, same, stretch,
                              turned)
from shortheld.errors import HeldError, NoPlace
from shortheld.text import LETTERS, Text
from tests import slow
from tests.helpers import all_made, random_rules, rng_of
from tests.ways import by_rules, letters


def random_texts(seed, largest):
    """Two small texts by rules and their strings; the second one is often much like the first one."""
    rng = rng_of(seed)
    alphabet = ("a", "ab", "abc", LETTERS)[seed % 4]
    rules = random_rules(rng, rng.randint(1, 25), largest, alphabet)
    size = len(all_made(rules)[-1])
    if rng.random() < 0.5:
        start, stop = sorted([rng.randint(0, size), rng.randint(0, size)])
        others = rules + [("part", len(rules) - 1, start, stop), ("letters", rng.choice(alphabet)),
                          ("join", len(rules), len(rules) + 1), ("join", len(rules) + 2, len(rules))]
    else:
        others = random_rules(rng, rng.randint(1, 25), largest, alphabet)
    return Text(rules), all_made(rules)[-1], Text(others), all_made(others)[-1]


class TestPairsOfPlaces(unittest.TestCase):
    def check_places(self, first, string, second, other):
        for start in range(len(string) + 1):
            for at in range(len(other) + 1):
                self.assertEqual(common_from(first, start, second, at), slow.common_from(string, start, other, at))
                self.assertEqual(common_to(first, start, second, at), slow.common_to(string, start, other, at))

    def test_texts_by_rules(self):
        for seed in range(60):
            self.check_places(*random_texts(seed, 14))

    def test_longer_texts_by_rules(self):
        for seed in range(300):
            first, string, second, other = random_texts(seed, 900)
            rng = rng_of(seed)
            for _ in range(5):
                start, at = rng.randint(0, len(string)), rng.randint(0, len(other))
                self.assertEqual(common_from(first, start, second, at), slow.common_from(string, start, other, at))
                self.assertEqual(common_to(first, start, second, at), slow.common_to(string, start, other, at))

    def test_one_text_with_itself(self):
        for string in ("a", "aa", "abab", "aabaab", "abcabcab", "abba"):
            text = letters(string)
            self.check_places(text, string, text, string)
            self.check_places(text, string, by_rules(string), string)

    def test_empty_texts(self):
        empties = (letters(""), Text([("letters", "abc"), ("power", 0, 0)]), Text([("letters", "a"), ("part", 0, 1, 1)]))
        for empty in empties:
            self.check_places(empty, "", letters("ab"), "ab")
            self.check_places(letters("ab"), "ab", empty, "")
            self.check_places(empty, "", empties[0], "")

    def test_runs_of_many_lengths(self):
        for first in ("aaaab", "aaab", "baaa", "abaaaa"):
            for second in ("aaaaa", "aab", "aaabaaab", "ba"):
                self.check_places(letters(first), first, by_rules(second), second)


class TestNoPlace(unittest.TestCase):
    first = Text([("letters", "abc"), ("power", 0, 2)])
    second = letters("abca")

    def check(self, start, at, wrong):
        for function in (common_from, common_to):
            with self.assertRaises(NoPlace) as caught:
                function(self.first, start, self.second, at)
            self.assertEqual(caught.exception.place, wrong)
            self.assertIsInstance(caught.exception, HeldError)

    def test_the_first_place_that_is_none(self):
        for wrong in (-1, -7, 7, 8, 10 ** 12):
            for at in (0, 4, -2, 5, 100):
                self.check(wrong, at, wrong)

    def test_the_second_place(self):
        for wrong in (-1, -5, 5, 6, 10 ** 12):
            for start in (0, 3, 6):
                self.check(start, wrong, wrong)

    def test_empty_texts(self):
        empty = letters("")
        for function in (common_from, common_to):
            self.assertEqual(function(empty, 0, empty, 0), 0)
            for start, at, wrong in ((1, 0, 1), (0, -1, -1), (-3, 2, -3), (0, 1, 1)):
                with self.assertRaises(NoPlace) as caught:
                    function(empty, start, empty, at)
                self.assertEqual(caught.exception.place, wrong)


class TestWhatComesAhead(unittest.TestCase):
    def check(self, first, string, second, other):
        place = slow.common_from(string, 0, other, 0)
        self.assertIs(same(first, second), string == other)
        self.assertEqual(first_difference(first, second), None if string == other else place)
        self.assertEqual(compare(first, second), (string > other) - (string < other))

    def test_all_short_texts(self):
        strings = [""]
        for string in strings:
            if len(string) < 4:
                strings += [string + letter for letter in "ab"]
        for string in strings:
            for other in strings:
                self.check(letters(string), string, by_rules(other), other)

    def test_texts_by_rules(self):
        for seed in range(300):
            first, string, second, other = random_texts(seed, (8, 60, 900)[seed % 3])
            self.check(first, string, second, other)
            self.check(second, other, first, string)
            self.check(first, string, Text.of_letters(string), string)

    def test_first_middle_and_last_place(self):
        string = "abcdefghij"
        for place in (0, 5, 9):
            for letter in ("~", " ", "Z"):
                other = string[:place] + letter + string[place + 1:]
                self.check(letters(string), string, by_rules(other), other)
                self.check(by_rules(other), other, letters(string), string)

    def test_letters_by_their_codes(self):
        for left, right in zip(LETTERS, LETTERS[1:]):
            self.check(letters("x" + left), "x" + left, letters("x" + right), "x" + right)
            self.check(letters(right), right, letters(left + right), left + right)

    def test_a_text_and_a_beginning_of_it(self):
        for string in ("a", "abab", "aaaa", "abcabd"):
            for size in range(len(string)):
                self.check(letters(string), string, by_rules(string[:size]), string[:size])
                self.check(by_rules(string[:size]), string[:size], letters(string), string)


class TestMismatches(unittest.TestCase):
    def check(self, pattern, told, text, string):
        for place in range(len(string) + 1):
            self.assertEqual(mismatches(pattern, text, place), slow.mismatches(told, string, place, 16))
            for limit in (0, 1, 2, 5, 1000, 10 ** 12):
                found = mismatches(pattern, text, place, limit=limit)
                self.assertEqual(found, slow.mismatches(told, string, place, limit))
                self.assertTrue(found is None or isinstance(found, tuple))

    def test_texts_by_rules(self):
        for seed in range(60):
            pattern, told, text, string = random_texts(seed, 25)
            self.check(pattern, told, text, string)
            self.check(text, string, pattern, told)

    def test_longer_texts(self):
        for seed in range(20):
            pattern, told, text, string = random_texts(seed, 300)
            self.check(stretch(pattern, 0, min(50, len(told))), told[:50], text, string)

    def test_limits(self):
        pattern, text = letters("a" * 30), letters("b" * 40)
        self.assertEqual(mismatches(pattern, text, 3), tuple(range(16)))
        for limit in (0, 1, 15, 16, 17, 29, 30, 31):
            self.assertEqual(mismatches(pattern, text, 3, limit=limit), tuple(range(min(limit, 30))))
        self.assertIsNone(mismatches(pattern, text, 11, limit=0))
        self.assertEqual(mismatches(pattern, text, 10, limit=0), ())

    def test_the_empty_pattern(self):
        for empty in (letters(""), Text([("letters", "ab"), ("power", 0, 0)])):
            for place in range(4):
                self.assertEqual(mismatches(empty, letters("abc"), place), ())
                self.assertEqual(mismatches(empty, letters("abc"), place, limit=0), ())
            self.assertEqual(mismatches(empty, letters(""), 0), ())

    def test_no_place(self):
        for pattern in (letters(""), letters("a"), letters("abcdef")):
            for text, places in ((letters("abc"), (-1, 4, -10 ** 12, 10 ** 12)), (letters(""), (-1, 1))):
                for place in places:
                    with self.assertRaises(NoPlace) as caught:
                        mismatches(pattern, text, place)
                    self.assertEqual(caught.exception.place, place)

    def test_not_within(self):
        self.assertIsNone(mismatches(letters("abc"), letters("abc"), 1))
        self.assertIsNone(mismatches(letters("abc"), letters("abc"), 3))
        self.assertIsNone(mismatches(letters("abcd"), letters("abc"), 0))
        self.assertIsNone(mismatches(letters("a"), letters(""), 0))


class TestPartsAndTurned(unittest.TestCase):
    def whole(self, text):
        return text.letters(0, text.length)

    def test_all_parts(self):
        for seed in range(40):
            rules = random_rules(rng_of(seed), 60, 20, "abc")
            text, string = Text(rules), all_made(rules)[-1]
            for start in range(len(string) + 1):
                for stop in range(start, len(string) + 1):
                    part = stretch(text, start, stop)
                    self.assertIsInstance(part, Text)
                    self.assertEqual((part.length, self.whole(part)), (stop - start, string[start:stop]))
                    self.assertEqual(len(part.lengths), len(part.rules))
            self.assertIsInstance(turned(text), Text)
            self.assertEqual((turned(text).length, self.whole(turned(text))), (len(string), string[::-1]))

    def test_again_and_again(self):
        text, string = letters("abcdefgh" * 8), "abcdefgh" * 8
        for number in range(31):
            text, string = turned(stretch(text, number % 2, text.length - 1)), string[number % 2:-1][::-1]
            self.assertEqual(self.whole(text), string)
        self.assertTrue(same(text, letters(string)))

    def test_empty(self):
        for text in (letters(""), letters("ab")):
            for place in {0, text.length}:
                self.assertEqual(stretch(text, place, place).length, 0)
                self.assertTrue(same(stretch(text, place, place), letters("")))
        self.assertEqual(self.whole(turned(letters(""))), "")

    def test_arguments_stay_as_they_were(self):
        rules = (("letters", "abc"), ("power", 0, 3), ("back", 1))
        text, other = Text(rules), letters("cba")
        before = (dict(vars(text)), dict(vars(other)))
        stretch(text, 1, 5)
        turned(text)
        common_from(text, 0, other, 0)
        common_to(text, 9, other, 3)
        mismatches(other, text, 1)
        compare(text, other)
        same(text, other)
        self.assertEqual((vars(text), vars(other)), before)
        self.assertEqual((text.rules, text.lengths, text.length), (rules, (3, 9, 9), 9))
