"""D1 to D4 on great texts, by closed forms, by sums of letters, and by what rules put in."""

import unittest

from shortheld.common import same, stretch, turned
from shortheld.periods import commute, is_period, least_period, periods_of, primitive_root, rotation_of
from shortheld.progressions import cut
from shortheld.text import Text
from tests import slow
from tests.great import MANY, MOST, Sums, kinds_of_rules, retold, words_joined
from tests.helpers import rng_of

FAR = 10 ** 11


def powers(word, times, size):
    """The texts of a word so many times and its first letters behind it, by several ways of rules."""
    many = len(word) * times + size
    rules = [("letters", word), ("power", 0, times), ("part", 0, 0, size), ("join", 1, 2)]
    longer = [("letters", word), ("power", 0, times + 2), ("part", 1, len(word), len(word) + many)]
    back = [("letters", word[::-1]), ("power", 0, times + 1), ("part", 1, len(word) - size, len(word) - size + many), ("back", 2)]
    square = [("letters", word), ("power", 0, times // 2), ("join", 1, 1), ("power", 0, times % 2), ("join", 2, 3),
              ("part", 0, 0, size), ("join", 4, 5)]
    cut = [*longer, ("part", 2, 0, many // 3), ("part", 2, many // 3, many), ("join", 3, 4)]
    texts = [Text(way) for way in (rules, longer, back, square, cut)]
    return [*texts, Text.made(retold(rules)), turned(turned(texts[0])), stretch(texts[1], 0, many)]


def all_periods(word, times, size):
    """All periods of a word, no power, three times at least, and its first letters behind it.

    A progression, and those behind it one by one: those that leave less than three words leave as much as they do
    behind three words.
    """
    small = word * 3 + word[:size]
    fewer = len(word) * (times - 3)
    return (len(word), len(word), times - 3), [fewer + number for number in slow.periods(small)]


class TestPowers(unittest.TestCase):
    def check(self, word, times, size):
        row, others = all_periods(word, times, size)
        rows = [row] if row[2] else []
        for text in powers(word, times, size):
            self.assertEqual(least_period(text), len(word))
            self.assertEqual(periods_of(text), cut(rows + [(number, 0, 1) for number in others]))
            root = (len(word), times) if size == 0 else (text.length, 1)
            self.assertEqual(primitive_root(text), root)
            self.check_numbers(text, row, others)

    def check_numbers(self, text, row, others):
        step, last = row[1], row[1] * row[2]
        for number in (*others, last, step, step * (row[2] // 2 + 1), text.length):
            self.assertIs(is_period(text, number), number > 0, number)
        for number in (-1, 0, step - 1, step + 1, last + 1, step * (row[2] // 2) + 1, text.length + 1, text.length + step):
            known = number in others or 1 <= number <= last and number % step == 0
            self.assertIs(is_period(text, number), known, number)

    def test_words_and_their_beginnings(self):
        for word in ("ab", "aab", "abcab", "abaabab", "aaaab"):
            for times in (3, 1000, MANY - 1, MANY):
                for size in range(len(word)):
                    self.check(word, times, size)

    def test_one_letter(self):
        for size in (1, 2, MANY, MOST):
            text = Text([("letters", "a"), ("power", 0, size)])
            for other in (text, turned(text), Text.made(retold(text.rules))):
                self.assertEqual(periods_of(other), ((1, 1 if size > 1 else 0, size),))
                self.assertEqual((least_period(other), primitive_root(other)), (1, (1, size)))
                self.assertTrue(is_period(other, 1) and is_period(other, size))
                self.assertFalse(is_period(other, 0) or is_period(other, size + 1))

    def test_a_letter_put_in(self):
        rules = [("letters", "ab"), ("power", 0, MANY), ("letters", "x"), ("join", 1, 2), ("join", 3, 1)]
        for text in (Text(rules), Text.made(retold(rules))):
            self.assertEqual(periods_of(text), ((2 * MANY + 1, 2, MANY + 1),))
            self.assertEqual(least_period(text), 2 * MANY + 1)
            self.assertEqual(primitive_root(text), (4 * MANY + 1, 1))
            self.assertFalse(is_period(text, 2))

    def test_powers_of_powers(self):
        rules = [("letters", "ab"), ("power", 0, 1000), ("letters", "c"), ("join", 1, 2), ("power", 3, 1000), ("join", 4, 1)]
        text = Text(rules)
        self.assertEqual(periods_of(text), ((2001, 2001, 1000), (2001 * 1000 + 2, 2, 1000)))
        self.assertEqual(least_period(text), 2001)
        self.assertEqual(primitive_root(Text(rules[:5])), (2001, 1000))
        self.assertEqual(primitive_root(text), (2001 * 1000 + 2000, 1))

    def test_words_joined(self):
        """The periods of such a word are those words of the row that are put ahead of it by twos, and it itself."""
        sizes = [1, 1]
        while len(sizes) < 58:
            sizes.append(sizes[-1] + sizes[-2])
        for many in (3, 8, 9, 14, 15, 55, 56):
            text, size = Text(words_joined(many)), sizes[many + 1]
            want = sorted([size - number for number in sizes[1 + many % 2:many + 1:2]] + [size])
            want = [number for number in want if number]
            self.assertEqual(periods_of(text), slow.cut(want))
            if size <= 1000:
                self.assertEqual(want, slow.periods(text.letters(0, size)))


class TestGreatTexts(unittest.TestCase):
    def test_all_periods_are_periods(self):
        for _, rules in kinds_of_rules(8):
            text, sums = Text(rules), Sums(rules)
            if text.length:
                found, size = periods_of(text), text.length
                self.assertEqual(found[0][0], least_period(text))
                self.assertEqual(found[-1][0] + found[-1][1] * (found[-1][2] - 1), size)
                for first, step, count in found:
                    for number in {first, first + step * (count // 2), first + step * (count - 1)}:
                        self.assertEqual(sums.of(0, size - number), sums.of(number, size))
                        self.assertTrue(is_period(text, number))
                self.assertEqual(periods_of(Text.made(retold(rules))), found)
                self.assertEqual(periods_of(turned(text)), found)

    def test_powers_of_texts(self):
        for seed, rules in kinds_of_rules(8):
            text = Text(rules)
            times = rng_of(seed).choice((2, 3, 10))
            if 0 < text.length * times <= MOST:
                root, many = primitive_root(text)
                power = Text.made([*rules, ("power", len(rules) - 1, times)])
                self.assertEqual(primitive_root(power), (root, many * times))
                self.assertEqual(least_period(power), root)
                first, step, count = periods_of(power)[0]
                self.assertEqual(first, root)
                if many * times > 2:
                    self.assertEqual(step, root)
                    self.assertGreaterEqual(count, many * times - 1)
                self.assertEqual(primitive_root(stretch(power, 0, power.length - 1))[1] > 1, root == 1 and power.length > 2)

    def test_commute(self):
        for seed, rules in kinds_of_rules(8):
            text, rng = Text(rules), rng_of(seed)
            if text.length > 1:
                root = primitive_root(text)[0]
                self.assertTrue(commute(text, Text.made(retold(rules))))
                self.assertTrue(commute(text, stretch(text, 0, root)))
                self.assertIs(commute(text, stretch(text, 0, text.length - 1)), root == 1)
                self.assertIs(commute(text, turned(text)), same(text, turned(text)))
                size = rng.randrange(1, text.length)
                self.assertIs(commute(stretch(text, 0, size), text), size % root == 0 and text.length % root == 0)

    def test_commute_with_more_letters_than_a_text_has(self):
        ab = [("letters", "ab")]
        most, fewer = Text(ab + [("power", 0, MOST // 2)]), Text(ab + [("power", 0, MOST // 2 - 1)])
        self.assertTrue(commute(most, fewer))
        self.assertTrue(commute(most, most))
        other = Text(ab + [("power", 0, MOST // 2 - 1), ("letters", "ac"), ("join", 1, 2)])
        self.assertFalse(commute(most, other))
        self.assertFalse(commute(other, most))
        self.assertTrue(commute(other, Text.made(retold(other.rules))))
        self.assertFalse(commute(most, turned(most)))
        one = Text([("letters", "a"), ("power", 0, MOST)])
        self.assertTrue(commute(one, Text.of_letters("aaa")))
        self.assertFalse(commute(one, most))
        self.assertFalse(commute(one, Text.of_letters("aab")))

    def test_rotations_of_powers(self):
        text = Text([("letters", "aab"), ("power", 0, FAR)])
        for start in (0, 1, 2):
            bigger = Text([("letters", "aab"), ("power", 0, FAR + 1), ("part", 1, start, 3 * FAR + start)])
            self.assertEqual(rotation_of(text, bigger), start)
            self.assertEqual(rotation_of(bigger, text), -start % 3)
        self.assertIsNone(rotation_of(text, Text([("letters", "abb"), ("power", 0, FAR)])))
        self.assertEqual(rotation_of(text, turned(text)), 2)
        one = Text([("letters", "a"), ("power", 0, MOST)])
        self.assertEqual(rotation_of(one, turned(one)), 0)
        self.assertIsNone(rotation_of(one, stretch(one, 1, MOST)))
        other = Text([("letters", "ab"), ("power", 0, MOST // 2), ("letters", "ba"), ("power", 2, MOST // 2)])
        self.assertEqual(rotation_of(Text(other.rules[:2]), other), 1)
        self.assertEqual(rotation_of(other, Text(other.rules[:2])), 1)

    def test_each_rotation_is_found(self):
        for seed, rules in kinds_of_rules(8):
            text, rng = Text(rules), rng_of(seed)
            if text.length:
                root, last = primitive_root(text)[0], len(rules) - 1
                for number in (0, 1, text.length - 1, rng.randrange(text.length), rng.randrange(text.length)):
                    number = number % text.length
                    rotated = Text.made([*rules, ("part", last, number, text.length), ("part", last, 0, number),
                                         ("join", last + 1, last + 2)])
                    self.assertEqual(rotation_of(text, rotated), number % root)
                    self.assertEqual(rotation_of(rotated, text), -number % root)
                    self.assertEqual(rotation_of(text, Text.made(retold(rotated.rules))), number % root)
                other = Text.made([*rules, ("part", last, 1, text.length), ("letters", "~"), ("join", last + 1, last + 2)])
                self.assertIsNone(rotation_of(text, other))
