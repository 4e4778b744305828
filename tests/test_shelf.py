"""F4: a shelf of texts, against a plain list of strings."""

import unittest

from shortheld.common import same, turned
from shortheld.ordering import Shelf
from shortheld.text import Text
from tests.great import MANY, great_rules, hard_rules, retold
from tests.helpers import rng_of
from tests.ways import by_rules, letters, short_strings, string_of, ways


class TestSmallTexts(unittest.TestCase):
    def check(self, shelf, strings, asked):
        """The shelf keeps these strings, which ascend."""
        self.assertEqual(len(shelf), len(strings))
        told = shelf.texts()
        self.assertIsInstance(told, tuple)
        self.assertEqual([string_of(text) for text in told], strings)
        for string in asked:
            text = by_rules(string)
            self.assertEqual(shelf.place(text), len([other for other in strings if other < string]))
            self.assertIs(shelf.holds(text), string in strings)
            for other in asked:
                found = shelf.between(text, letters(other))
                self.assertIsInstance(found, tuple)
                self.assertEqual([string_of(row) for row in found], [row for row in strings if string <= row < other])

    def test_no_texts(self):
        shelf = Shelf()
        self.check(shelf, [], ["", "a", "ab"])
        self.assertIs(shelf.drop(letters("")), False)
        self.assertIs(shelf.drop(letters("a")), False)
        self.check(shelf, [], ["", "a", "ab"])

    def test_the_same_text_by_other_rules(self):
        shelf = Shelf()
        first = letters("abab")
        self.assertIs(shelf.put(first), True)
        for text in ways("abab"):
            self.assertIs(shelf.put(text), False)
            self.assertIs(shelf.holds(text), True)
            self.assertEqual(shelf.place(text), 0)
            self.assertEqual([kept.rules for kept in shelf.texts()], [first.rules])
        self.assertIs(shelf.drop(by_rules("abab")), True)
        self.check(shelf, [], ["abab"])

    def test_the_empty_text(self):
        shelf = Shelf()
        for string in ("b", "", "a"):
            self.assertIs(shelf.put(letters(string)), True)
        self.assertIs(shelf.put(Text([("letters", "ab"), ("power", 0, 0)])), False)
        self.check(shelf, ["", "a", "b"], ["", "a", "ab", "b", "c"])
        self.assertIs(shelf.drop(by_rules("")), True)
        self.check(shelf, ["a", "b"], ["", "a", "ab", "b", "c"])

    def test_many_puts_and_drops(self):
        some = short_strings("ab", 4) + ["~", " ", "abcab", "abcabcab"]
        for seed in range(6):
            rng, shelf, strings = rng_of(seed), Shelf(), []
            for _ in range(60):
                string = rng.choice(some)
                text = rng.choice(ways(string))
                if rng.random() < (0.7, 0.4)[seed % 2]:
                    self.assertIs(shelf.put(text), string not in strings)
                    strings = sorted({*strings, string})
                else:
                    self.assertIs(shelf.drop(text), string in strings)
                    strings = [other for other in strings if other != string]
                self.check(shelf, strings, [string, rng.choice(some), rng.choice(some)])

    def test_put_and_drop_all(self):
        shelf, strings = Shelf(), short_strings("ab", 3)
        rng_of(1).shuffle(strings)
        for string in strings:
            self.assertIs(shelf.put(by_rules(string)), True)
        self.check(shelf, sorted(strings), strings)
        for number, string in enumerate(strings):
            self.assertIs(shelf.drop(letters(string)), True)
            self.assertIs(shelf.drop(letters(string)), False)
            self.assertEqual(len(shelf), len(strings) - number - 1)

    def test_a_tuple_that_was_told_stays_as_it_was(self):
        shelf = Shelf()
        for string in ("b", "d"):
            shelf.put(letters(string))
        told, between = shelf.texts(), shelf.between(letters("a"), letters("z"))
        for string in ("a", "c", "e"):
            shelf.put(letters(string))
        shelf.drop(letters("b"))
        for row in (told, between):
            self.assertEqual([string_of(text) for text in row], ["b", "d"])
        self.assertEqual([string_of(text) for text in shelf.texts()], ["a", "c", "d", "e"])

    def test_shelves_of_their_own(self):
        first, second = Shelf(), Shelf()
        first.put(letters("a"))
        self.assertEqual((len(first), len(second)), (1, 0))

    def test_between(self):
        shelf = Shelf()
        for string in ("a", "ab", "b", "ba"):
            shelf.put(letters(string))
        for first, second, want in (("", "z", ["a", "ab", "b", "ba"]), ("ab", "ba", ["ab", "b"]), ("ab", "ab", []),
                                    ("b", "a", []), ("aa", "b", ["ab"]), ("z", "", []), ("", "a", []), ("ba", "bb", ["ba"])):
            self.assertEqual([string_of(text) for text in shelf.between(letters(first), by_rules(second))], want)


class TestGreatTexts(unittest.TestCase):
    def test_powers(self):
        """a so many times and then b: the more letters, the earlier it comes."""
        shelf, many = Shelf(), 12
        texts = [Text([("letters", "a"), ("power", 0, MANY - number), ("letters", "b"), ("join", 1, 2)])
                 for number in range(many)]
        for number in rng_of(3).sample(range(many), many):
            self.assertIs(shelf.put(texts[number]), True)
            self.assertIs(shelf.put(Text.made(retold(texts[number].rules))), False)
        self.assertEqual([text.length for text in shelf.texts()], [text.length for text in texts])
        self.assertEqual(shelf.place(Text([("letters", "a"), ("power", 0, MANY)])), 0)
        self.assertEqual(shelf.place(Text([("letters", "a"), ("power", 0, MANY // 2)])), 0)
        self.assertEqual(shelf.place(letters("b")), many)
        self.assertEqual([shelf.place(text) for text in texts], list(range(many)))
        self.assertEqual(shelf.between(texts[3], texts[7]), shelf.texts()[3:7])
        self.assertEqual(shelf.between(texts[7], texts[3]), ())
        self.assertIs(shelf.drop(Text.made(retold(texts[5].rules))), True)
        self.assertIs(shelf.holds(texts[5]), False)
        self.assertEqual(shelf.place(texts[6]), 5)

    def test_texts_by_rules(self):
        shelf = Shelf()
        texts = [Text(kind(rng_of(seed))) for seed in range(5) for kind in (great_rules, hard_rules)]
        for text in texts:
            shelf.put(text)
            shelf.put(turned(text))
        for text in texts:
            for other in (text, Text.made(retold(text.rules)), turned(turned(text))):
                self.assertIs(shelf.put(other), False)
                self.assertIs(shelf.holds(other), True)
                self.assertTrue(same(shelf.texts()[shelf.place(other)], text))
            self.assertIs(shelf.drop(Text.made(retold(text.rules))), True)
            self.assertIs(shelf.holds(text), False)
            self.assertIs(shelf.put(text), True)
