"""A3 and A4: places, parts, and texts of many rules."""

import unittest

from shortheld.errors import NoPart, NoPlace, TooLong
from shortheld.text import LETTERS, Text
from tests.helpers import all_made, random_rules, rng_of


def whole(text):
    return "".join([text.letters(start, min(start + 1000, text.length)) for start in range(0, text.length, 1000)])


class TestPlaces(unittest.TestCase):
    def check_no_place(self, text, place):
        with self.assertRaises(NoPlace) as caught:
            text.letter(place)
        self.assertEqual(caught.exception.place, place)

    def test_places(self):
        text = Text((("letters", "abc"), ("back", 0), ("join", 0, 1)))
        self.assertEqual([text.letter(place) for place in range(6)], list("abccba"))
        for place in (-1, -6, 6, 7, 10 ** 12, -10 ** 12):
            self.check_no_place(text, place)

    def test_empty_text(self):
        for place in (-1, 0, 1):
            self.check_no_place(Text((("letters", ""),)), place)

    def test_ends_of_a_great_text(self):
        text = Text((("letters", "ab"), ("power", 0, 5 * 10 ** 11)))
        self.assertEqual((text.letter(0), text.letter(10 ** 12 - 1)), ("a", "b"))
        self.check_no_place(text, 10 ** 12)
        self.check_no_place(text, -1)


class TestParts(unittest.TestCase):
    text = Text((("letters", "abcde"), ("power", 0, 1000)))

    def check_no_part(self, text, start, stop):
        with self.assertRaises(NoPart) as caught:
            text.letters(start, stop)
        self.assertEqual((caught.exception.start, caught.exception.stop), (start, stop))

    def test_parts(self):
        text = Text((("letters", "abcde"), ("part", 0, 1, 4), ("back", 1)))
        for start in range(4):
            for stop in range(start, 4):
                self.assertEqual(text.letters(start, stop), "dcb"[start:stop])

    def test_no_parts(self):
        for start, stop in ((-1, 2), (0, 5001), (5001, 5001), (2, 1), (-1, -1), (5000, 4999), (-2, 5001)):
            self.check_no_part(self.text, start, stop)

    def test_empty_parts(self):
        for place in (0, 1, 5000):
            self.assertEqual(self.text.letters(place, place), "")
        empty = Text((("letters", ""),))
        self.assertEqual(empty.letters(0, 0), "")
        self.check_no_part(empty, 0, 1)

    def test_most_letters(self):
        self.assertEqual(self.text.letters(0, 1000), "abcde" * 200)
        self.assertEqual(self.text.letters(4000, 5000), "abcde" * 200)
        self.assertEqual(self.text.letters(7, 1007), "cdeab" * 200)
        for start, stop in ((0, 1001), (3999, 5000), (0, 5000)):
            self.assertRaises(TooLong, self.text.letters, start, stop)

    def test_no_part_ahead_of_too_long(self):
        for start, stop in ((-1, 2000), (0, 5001), (4000, 5001), (-3000, -1)):
            self.check_no_part(self.text, start, stop)

    def test_great_text(self):
        rules = (("letters", "abc"), ("power", 0, 10 ** 9), ("letters", "x"), ("join", 1, 2), ("power", 3, 300),
                 ("back", 4), ("part", 5, 1, 9 * 10 ** 11 + 300))
        text = Text(rules)
        size = 3 * 10 ** 9 + 1
        self.assertEqual(text.length, 300 * size - 1)
        self.assertEqual(text.letters(0, 6), "cbacba")
        self.assertEqual(text.letters(text.length - 4, text.length), "acba")
        self.assertEqual(text.letters(size - 3, size + 2), "baxcb")
        self.assertEqual(text.letter(size - 1), "x")


class TestRandomTexts(unittest.TestCase):
    def test_against_strings(self):
        for seed in range(150):
            rng = rng_of(seed)
            rules = random_rules(rng, rng.randint(1, 60), 3000, "abc")
            text = Text(rules)
            made = all_made(rules)
            self.assertEqual(text.lengths, tuple(len(string) for string in made))
            self.assertEqual(whole(text), made[-1])
            for place in range(0, text.length, 37):
                self.assertEqual(text.letter(place), made[-1][place])

    def test_many_nested_powers(self):
        rules = [("letters", "ab")] + [("power", number, 2) for number in range(38)]
        text = Text(rules)
        self.assertEqual(text.length, 2 ** 39)
        self.assertEqual(text.letters(2 ** 38 - 3, 2 ** 38 + 3), "bababa")


class TestMade(unittest.TestCase):
    def test_more_than_sixty_rules(self):
        for many in (1, 60, 61, 500, 3000):
            rules = [["letters", LETTERS[number % 94]] for number in range(many)]
            joined = rules + [["join", 0, 1]] if many > 1 else list(rules)
            for number in range(2, many):
                joined.append(["join", len(joined) - 1, number])
            text = Text.made(joined)
            self.assertIsInstance(text, Text)
            self.assertEqual(text.length, many)
            self.assertEqual(whole(text), "".join([LETTERS[number % 94] for number in range(many)]))
            self.assertEqual(text.rules, tuple(tuple(rule) for rule in joined))
            self.assertEqual(len(text.lengths), len(joined))

    def test_later_changes_change_nothing(self):
        rules = [["letters", "a"]] * 70 + [["join", 3, 4]]
        text = Text.made(rules)
        rules[70][1] = 70
        rules.clear()
        self.assertEqual((text.length, len(text.rules), text.letters(0, 2)), (2, 71, "aa"))

    def test_great_with_many_rules(self):
        rules = [("letters", "ab"), ("power", 0, 10 ** 11)]
        for _ in range(100):
            last = len(rules) - 1
            rules += [("back", last), ("part", last + 1, 1, 2 * 10 ** 11), ("join", last + 2, 0),
                      ("part", last + 3, 1, 2 * 10 ** 11 + 1)]
        text = Text.made(rules)
        self.assertEqual(text.length, 2 * 10 ** 11)
        self.assertEqual(text.letter(2 * 10 ** 11 - 1), "b")
        self.assertEqual(len(text.letters(10 ** 11, 10 ** 11 + 1000)), 1000)

    def test_of_letters(self):
        for letters in ("", "a", LETTERS[:64], LETTERS[-64:]):
            text = Text.of_letters(letters)
            self.assertIsInstance(text, Text)
            self.assertEqual(whole(text), letters)
            self.assertEqual(text.length, len(letters))

    def test_of_somewhat_more_letters(self):
        for many in (65, 94, 128, 129, 5000):
            self.assertEqual(whole(Text.of_letters((LETTERS * 60)[:many])), (LETTERS * 60)[:many])
