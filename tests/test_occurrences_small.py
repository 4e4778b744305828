"""E1 on small texts: where a pattern stands, found by trying each place."""

import unittest

from shortheld.errors import Empty, HeldError, NoPart, NoPlace
from shortheld.occurrences import (count_occurrences, last_occurrence, next_occurrence, nth_occurrence,
                                   occurrences_around)
from shortheld.text import Text
from tests import slow
from tests.helpers import all_made, random_rules, rng_of
from tests.ways import letters


def pattern_and_text(seed, largest):
    """A small text by rules and a pattern that often stands in it, each with its string."""
    rng = rng_of(seed)
    alphabet = ("a", "ab", "ab", "abc")[seed % 4]
    rules = random_rules(rng, rng.randint(1, 25), largest, alphabet)
    size = len(all_made(rules)[-1])
    if size and rng.random() < 0.7:
        start = rng.randrange(size)
        others = rules + [("part", len(rules) - 1, start, rng.randint(start + 1, min(size, start + rng.choice((2, 5, 90)))))]
    else:
        others = [("letters", "".join([rng.choice(alphabet) for _ in range(rng.randint(1, 6))]))]
    return Text(others), all_made(others)[-1], Text(rules), all_made(rules)[-1]


class OccurrencesTest(unittest.TestCase):
    def check_around(self, pattern, told, text, string, places):
        for place in places:
            found = occurrences_around(pattern, text, place)
            self.assertEqual(found, slow.around(told, string, place), (told, string, place))
            self.assertIsInstance(found, tuple)

    def check_next_and_last(self, pattern, told, text, string, places):
        all_found = slow.occurrences(told, string)
        for place in places:
            after = [found for found in all_found if found >= place]
            ahead = [found for found in all_found if found + len(told) <= place]
            self.assertEqual(next_occurrence(pattern, text, place), after[0] if after else None, (told, string, place))
            self.assertEqual(last_occurrence(pattern, text, place), ahead[-1] if ahead else None, (told, string, place))

    def check_count(self, pattern, told, text, string, parts):
        all_found = slow.occurrences(told, string)
        for start, stop in parts:
            want = sum(1 for found in all_found if start <= found and found + len(told) <= stop)
            self.assertEqual(count_occurrences(pattern, text, start, stop), want, (told, string, start, stop))

    def check_nth(self, pattern, told, text, string, numbers):
        all_found = slow.occurrences(told, string)
        for number in numbers:
            want = all_found[number] if 0 <= number < len(all_found) else None
            self.assertEqual(nth_occurrence(pattern, text, number), want, (told, string, number))

    def check_all(self, pattern, told, text, string):
        size = len(string)
        many = len(slow.occurrences(told, string))
        self.check_around(pattern, told, text, string, range(size))
        self.check_next_and_last(pattern, told, text, string, range(size + 1))
        self.check_count(pattern, told, text, string,
                         [(start, stop) for start in range(size + 1) for stop in range(start, size + 1)])
        self.check_nth(pattern, told, text, string, [*range(-3, many + 3), -10 ** 12, 10 ** 12])


class TestEachPlace(OccurrencesTest):
    def test_texts_by_rules(self):
        for seed in range(120):
            self.check_all(*pattern_and_text(seed, 16))

    def test_longer_texts_by_rules(self):
        for seed in range(500):
            pattern, told, text, string = pattern_and_text(seed, (60, 300, 2000)[seed % 3])
            rng = rng_of(seed)
            places = [rng.randint(0, len(string)) for _ in range(4)]
            self.check_around(pattern, told, text, string, [place for place in places if place < len(string)])
            self.check_next_and_last(pattern, told, text, string, places)
            self.check_count(pattern, told, text, string, [sorted(places[:2]), (0, len(string))])
            many = len(slow.occurrences(told, string))
            self.check_nth(pattern, told, text, string, [0, many - 1, many, rng.randint(0, many)])

    def test_patterns_that_overlap_themselves(self):
        for told, string in (("aa", "aaaaaa"), ("aba", "abababab"), ("aabaa", "aabaabaaabaa"), ("abab", "abababxabab"),
                             ("abaab", "abaababaabaab"), ("a", "aaaa"), ("abcabc", "abcabcabcab")):
            self.check_all(letters(told), told, letters(string), string)

    def test_ends_of_the_text(self):
        for string in ("abcab", "abxab", "aab", "ab"):
            for told in ("ab", "a", "b", string, string[1:], string[:-1]):
                self.check_all(letters(told), told, letters(string), string)

    def test_patterns_longer_than_the_text(self):
        for told, string in (("abc", "ab"), ("aaaa", "aaa"), ("a", ""), ("abab", "bab")):
            self.check_all(letters(told), told, letters(string), string)

    def test_all_short_texts(self):
        strings = [""]
        for string in strings:
            if len(string) < 7:
                strings += [string + letter for letter in "ab"]
        for string in strings[60::3]:
            for told in ("a", "ab", "aba", "bab", "abba", "aabaa"):
                pattern, text = letters(told), letters(string)
                self.check_around(pattern, told, text, string, range(len(string)))
                self.check_count(pattern, told, text, string, [(0, len(string)), (1, len(string) - 1)])
                self.check_nth(pattern, told, text, string, range(len(string)))


class TestExamples(OccurrencesTest):
    def test_around(self):
        self.assertEqual(occurrences_around(letters("aabaa"), letters("aabaaabaa"), 4), (0, 4, 2))

    def test_great(self):
        text = Text([("letters", "ab"), ("power", 0, 10 ** 11)])
        self.assertEqual(nth_occurrence(letters("ba"), text, 5), 11)
        self.assertEqual(count_occurrences(letters("aba"), text, 0, 2 * 10 ** 11), 10 ** 11 - 1)


class TestAround(OccurrencesTest):
    def test_none_one_and_more(self):
        self.assertEqual(occurrences_around(letters("x"), letters("abc"), 1), (None, 0, 0))
        self.assertEqual(occurrences_around(letters("abcd"), letters("abc"), 1), (None, 0, 0))
        self.assertEqual(occurrences_around(letters("bc"), letters("abc"), 2), (1, 0, 1))
        self.assertEqual(occurrences_around(letters("abc"), letters("abc"), 0), (0, 0, 1))
        self.assertEqual(occurrences_around(letters("aaa"), letters("aaaaaaa"), 3), (1, 1, 3))


class TestErrors(unittest.TestCase):
    empties = (letters(""), Text([("letters", "ab"), ("power", 0, 0)]))
    texts = (letters(""), letters("ab"), Text([("letters", "ab"), ("power", 0, 10 ** 11)]))

    def check_place(self, function, pattern, text, place):
        with self.assertRaises(NoPlace) as caught:
            function(pattern, text, place)
        self.assertEqual(caught.exception.place, place)
        self.assertIsInstance(caught.exception, HeldError)

    def check_part(self, pattern, text, start, stop):
        with self.assertRaises(NoPart) as caught:
            count_occurrences(pattern, text, start, stop)
        self.assertEqual((caught.exception.start, caught.exception.stop), (start, stop))

    def test_empty_first(self):
        for pattern in self.empties:
            for text in self.texts:
                for place in (-1, 0, 1, 10 ** 12):
                    for function in (occurrences_around, next_occurrence, last_occurrence, nth_occurrence):
                        self.assertRaises(Empty, function, pattern, text, place)
                    self.assertRaises(Empty, count_occurrences, pattern, text, place, place + 1)
                    self.assertRaises(Empty, count_occurrences, pattern, text, place, -5)

    def test_no_place(self):
        for pattern in (letters("a"), letters("ababab"), Text([("letters", "ab"), ("power", 0, 10 ** 11)])):
            for text in self.texts:
                for place in (-1, -2, -10 ** 12, text.length + 1, text.length + 10 ** 12):
                    for function in (occurrences_around, next_occurrence, last_occurrence):
                        self.check_place(function, pattern, text, place)
                self.check_place(occurrences_around, pattern, text, text.length)

    def test_no_part(self):
        for pattern in (letters("a"), letters("ababab")):
            for text in self.texts:
                size = text.length
                for start, stop in ((-1, 0), (0, size + 1), (1, 0), (size + 1, size + 1), (-1, -1), (size, size - 1)):
                    self.check_part(pattern, text, start, stop)

    def test_edges_that_are_no_errors(self):
        pattern, text = letters("ab"), letters("abab")
        self.assertEqual((next_occurrence(pattern, text, 0), next_occurrence(pattern, text, 4)), (0, None))
        self.assertEqual((last_occurrence(pattern, text, 0), last_occurrence(pattern, text, 4)), (None, 2))
        self.assertEqual([count_occurrences(pattern, text, place, place) for place in range(5)], [0] * 5)
        self.assertEqual(count_occurrences(pattern, text, 0, 4), 2)
        self.assertEqual((next_occurrence(pattern, letters(""), 0), last_occurrence(pattern, letters(""), 0)), (None, None))
        self.assertEqual(count_occurrences(pattern, letters(""), 0, 0), 0)
        self.assertEqual((nth_occurrence(pattern, text, -1), nth_occurrence(pattern, text, 2)), (None, None))

    def test_arguments_stay_as_they_were(self):
        pattern, text = letters("ab"), Text([["letters", "ab"], ["power", 0, 3]])
        before = (dict(vars(pattern)), dict(vars(text)))
        occurrences_around(pattern, text, 3)
        count_occurrences(pattern, text, 0, 6)
        nth_occurrence(pattern, text, 1)
        self.assertEqual((vars(pattern), vars(text)), before)
