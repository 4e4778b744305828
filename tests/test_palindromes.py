"""F3: palindromes around the centres of texts."""

import unittest

from shortheld.common import same, stretch, turned
from shortheld.errors import HeldError
from shortheld.palindromes import NoCentre, is_palindrome, palindrome_at, stretch_at
from shortheld.text import Text
from tests import slow
from tests.great import MANY, MOST, Sums, kinds_of_rules, retold
from tests.helpers import rng_of
from tests.ways import by_rules, letters, random_text, repeated, short_strings, ways

FAR = 10 ** 11


class TestSmallTexts(unittest.TestCase):
    def check(self, text, string):
        self.assertIs(is_palindrome(text), string == string[::-1], string)
        for centre in range(2 * len(string) + 1):
            start, stop = slow.palindrome(string, centre)
            self.assertEqual(palindrome_at(text, centre), stop - start, (string, centre))
            self.assertEqual(stretch_at(text, centre), (start, stop), (string, centre))

    def test_all_short_texts(self):
        for string in short_strings("ab", 6):
            self.check(letters(string), string)
        for string in short_strings("abc", 4):
            self.check(by_rules(string), string)

    def test_both_ends(self):
        for string in ("a", "ab", "aba", "aaaa"):
            for text in ways(string):
                for centre in (0, 2 * len(string)):
                    self.assertEqual(palindrome_at(text, centre), 0)
                    self.assertEqual(stretch_at(text, centre), (centre // 2, centre // 2))
                for centre in (1, 2 * len(string) - 1):
                    self.assertEqual(palindrome_at(text, centre), 1)
                    self.assertEqual(stretch_at(text, centre), (centre // 2, centre // 2 + 1))

    def test_palindromes(self):
        for string in ("", "a", "aa", "aba", "abba", "abacaba", "~ ~", "racecar", "ab" * 20 + "a"):
            for text in ways(string):
                self.check(text, string)
                self.assertIs(is_palindrome(text), True)
                self.assertEqual(stretch_at(text, len(string)), (0, len(string)))
        for string in ("ab", "aab", "abab", "abcab", "~ ~ "):
            for text in ways(string):
                self.assertIs(is_palindrome(text), False)

    def test_words_again_and_again(self):
        for seed in range(80):
            string = "x"[seed % 2:] + repeated(seed, 25)
            self.check(by_rules(string), string)

    def test_texts_by_rules(self):
        for seed in range(150):
            text, string = random_text(seed, 40, ("a", "ab", "abc")[seed % 3])
            self.check(text, string)
            last = len(text.rules) - 1
            self.check(Text.made([*text.rules, ("back", last), ("join", last, last + 1)]), string + string[::-1])

    def test_the_empty_text(self):
        for text in (letters(""), Text([("letters", "ab"), ("power", 0, 0)]), Text([("letters", "a"), ("part", 0, 1, 1)])):
            self.assertIs(is_palindrome(text), True)
            self.assertEqual(palindrome_at(text, 0), 0)
            self.assertEqual(stretch_at(text, 0), (0, 0))

    def test_arguments_stay_as_they_were(self):
        text = Text([["letters", "ab"], ["power", 0, 3]])
        before = dict(vars(text))
        is_palindrome(text)
        palindrome_at(text, 3)
        stretch_at(text, 3)
        self.assertEqual(vars(text), before)


class TestNoCentre(unittest.TestCase):
    def test_no_centre(self):
        for text in (letters(""), letters("abc"), Text([("letters", "ab"), ("power", 0, FAR)])):
            for centre in (-1, -2, 2 * text.length + 1, 2 * text.length + 2, -MOST, 3 * MOST):
                for function in (palindrome_at, stretch_at):
                    with self.assertRaises(NoCentre) as caught:
                        function(text, centre)
                    self.assertEqual(caught.exception.centre, centre)
                    self.assertIsInstance(caught.exception, HeldError)


class TestGreatTexts(unittest.TestCase):
    def test_examples(self):
        b, c = Text([("letters", "ab"), ("power", 0, FAR)]), letters("aca")
        self.assertEqual(palindrome_at(c, 3), 3)
        self.assertEqual(palindrome_at(b, 200000000001), 199999999999)
        self.assertEqual(palindrome_at(b, 200000000000), 0)

    def test_one_letter(self):
        text = Text([("letters", "a"), ("power", 0, MOST)])
        self.assertIs(is_palindrome(text), True)
        for centre in (0, 1, FAR, FAR + 1, MOST - 1, MOST, MOST + 1, 2 * MOST - 5, 2 * MOST):
            many = min(centre, 2 * MOST - centre)
            self.assertEqual(palindrome_at(text, centre), many)
            self.assertEqual(stretch_at(text, centre), ((centre - many) // 2, (centre + many) // 2))

    def test_a_letter_put_in(self):
        """aba again and again, with an x put in behind so many letters."""
        rules = [("letters", "aba"), ("power", 0, MANY), ("letters", "x"), ("join", 1, 2), ("join", 3, 1)]
        size = 3 * MANY
        for text in (Text(rules), Text.made(retold(rules)), turned(Text(rules))):
            self.assertIs(is_palindrome(text), True)
            self.assertEqual(palindrome_at(text, 2 * size + 1), 2 * size + 1)
            self.assertEqual(stretch_at(text, size), (0, size))
            for centre in (3, 9, 3 * MANY // 2 * 2 - 3):
                self.assertEqual(palindrome_at(text, centre), centre)
            self.assertEqual(stretch_at(text, 2 * size - 3), (size - 3, size))
            self.assertEqual(palindrome_at(text, 2 * size), 0)
            self.assertEqual(palindrome_at(text, 2 * size + 5), 3)
            self.assertEqual(palindrome_at(text, 2 * (2 * size + 1) - 9), 9)

    def test_not_turned(self):
        power = [("letters", "ab"), ("power", 0, MOST // 2)]
        self.assertIs(is_palindrome(Text(power)), False)
        self.assertIs(is_palindrome(Text([*power, ("part", 1, 1, MOST)])), True)
        self.assertIs(is_palindrome(Text([*power, ("part", 1, 1, MOST - 1)])), False)

    def test_what_is_told_is_a_palindrome(self):
        for seed, rules in kinds_of_rules(8):
            rng, text = rng_of(seed), Text(rules)
            other, sums = Text.made(retold(rules)), Sums([*rules, ("back", len(rules) - 1)])
            size, forth = text.length, Sums(rules)
            self.assertIs(is_palindrome(text), same(text, turned(text)))
            for _ in range(4):
                centre = rng.choice((rng.randint(0, 2 * size), min(2 * size, rng.randint(0, 99)), size))
                start, stop = stretch_at(text, centre)
                self.assertEqual((start + stop, stop - start), (centre, palindrome_at(text, centre)))
                self.assertEqual(palindrome_at(other, centre), stop - start)
                self.assertEqual(palindrome_at(turned(text), 2 * size - centre), stop - start)
                self.assertEqual(forth.of(start, stop), sums.of(size - stop, size - start))
                if 0 < start and stop < size:
                    self.assertNotEqual(text.letter(start - 1), text.letter(stop))
                self.assertIs(is_palindrome(stretch(text, start, stop)), True)

    def test_texts_and_the_same_turned_round(self):
        for _, rules in kinds_of_rules(8):
            last, size = len(rules) - 1, Text(rules).length
            if 0 < size < MOST // 2:
                even = Text.made([*rules, ("back", last), ("join", last, last + 1)])
                odd = Text.made([*rules, ("back", last), ("letters", "~"), ("join", last, last + 2), ("join", last + 3, last + 1)])
                self.assertIs(is_palindrome(even), True)
                self.assertIs(is_palindrome(odd), True)
                self.assertEqual(stretch_at(even, 2 * size), (0, 2 * size))
                self.assertEqual(stretch_at(odd, 2 * size + 1), (0, 2 * size + 1))
                self.assertIs(is_palindrome(stretch(odd, 0, 2 * size)), False)
