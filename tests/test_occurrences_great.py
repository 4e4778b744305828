"""E1 on great texts and with great patterns."""

import unittest

from shortheld.common import stretch, turned
from shortheld.occurrences import (count_occurrences, last_occurrence, next_occurrence, nth_occurrence,
                                   occurrences_around)
from shortheld.text import Text
from tests import slow
from tests.great import MOST, Sums, great_rules, hard_rules, retold, swapped, words_joined
from tests.helpers import random_rules, rng_of
from tests.ways import letters

FAR = 10 ** 11


def count_all(pattern, text):
    return count_occurrences(pattern, text, 0, text.length)


class TestPowers(unittest.TestCase):
    def test_one_letter(self):
        text = Text([("letters", "a"), ("power", 0, MOST)])
        for size in (1, 2, 7, FAR, MOST - 1, MOST):
            pattern = stretch(text, 0, size)
            many = MOST - size + 1
            self.assertEqual(count_all(pattern, text), many)
            self.assertEqual(nth_occurrence(pattern, text, many - 1), many - 1)
            self.assertIsNone(nth_occurrence(pattern, text, many))
            first = max(0, FAR - size + 1)
            count = min(FAR, MOST - size) - first + 1
            self.assertEqual(occurrences_around(pattern, text, FAR), (first, 1 if count > 1 else 0, count))
            self.assertEqual(next_occurrence(pattern, text, many - 1), many - 1)
            self.assertIsNone(next_occurrence(pattern, text, many) if many < MOST else None)
            self.assertEqual(last_occurrence(pattern, text, MOST - 5), MOST - 5 - size if size <= MOST - 5 else None)

    def test_a_word(self):
        text = Text([("letters", "aab"), ("power", 0, FAR)])
        for start in range(3):
            for size in (3, 4, 6, 50, 3 * 10 ** 10, 3 * 10 ** 10 + 1, 3 * FAR - 3, 3 * FAR - 2, 3 * FAR - 1, 3 * FAR):
                if start + size > 3 * FAR:
                    continue
                pattern = stretch(text, start, start + size)
                many = (3 * FAR - size - start) // 3 + 1
                self.assertEqual(count_all(pattern, text), many)
                self.assertEqual(nth_occurrence(pattern, text, many // 2), start + many // 2 * 3)
                self.assertEqual(next_occurrence(pattern, text, 0), start)
                self.assertEqual(last_occurrence(pattern, text, 3 * FAR), start + 3 * many - 3)
                self.assertEqual(count_occurrences(pattern, text, start, start + size), 1)
                self.assertEqual(count_occurrences(pattern, text, start + 1, start + size), 0)
                first, step, count = occurrences_around(pattern, text, start + size - 1)
                self.assertEqual((first, step, count), (start, 3 if count > 1 else 0, min(many, (size - 1) // 3 + 1)))

    def test_letters_put_in(self):
        rules = [("letters", "ab"), ("power", 0, FAR), ("letters", "b"), ("join", 1, 2), ("power", 3, 4), ("back", 4)]
        text, back = Text(rules[:5]), Text(rules)
        block = 2 * FAR + 1
        self.assertEqual(count_all(letters("bb"), text), 4)
        self.assertEqual([nth_occurrence(letters("bb"), text, number) for number in range(4)],
                         [block * number + 2 * FAR - 1 for number in range(4)])
        self.assertEqual([nth_occurrence(letters("bba"), text, number) for number in range(4)],
                         [block * number + 2 * FAR - 1 for number in range(3)] + [None])
        self.assertEqual([nth_occurrence(letters("bb"), back, number) for number in range(4)],
                         [block * number for number in range(4)])
        self.assertEqual(count_all(letters("ab"), text), 4 * FAR)
        self.assertEqual(count_all(letters("ba"), text), 4 * (FAR - 1) + 3)
        great = stretch(text, 1, block + 1)
        self.assertEqual(count_all(great, text), 3)
        self.assertEqual(nth_occurrence(great, text, 2), 2 * block + 1)
        self.assertEqual(occurrences_around(great, text, 2 * block), (block + 1, 0, 1))
        self.assertEqual(occurrences_around(great, text, block), (1, 0, 1))
        half = stretch(text, 1, FAR + 1)
        # In each block but the first one, the letter that is put in ahead of it begins one more.
        self.assertEqual(count_all(half, text), 4 * (FAR // 2) + 3)
        self.assertEqual(occurrences_around(half, text, block + FAR), (block + 1, 2, FAR // 2))

    def test_powers_of_powers(self):
        """Blocks of (ab) 1000 times and c, a million of them, which stand 100 times in a row with d."""
        rules = [("letters", "ab"), ("power", 0, 1000), ("letters", "c"), ("join", 1, 2), ("power", 3, 10 ** 6),
                 ("letters", "d"), ("join", 4, 5), ("power", 6, 100)]
        text = Text(rules)
        block, row = 2001, 2001 * 10 ** 6 + 1
        self.assertEqual(count_all(letters("ca"), text), 100 * (10 ** 6 - 1))
        self.assertEqual(count_all(letters("cd"), text), 100)
        self.assertEqual(count_all(letters("abab"), text), 100 * 10 ** 6 * 999)
        for times in (1, 2, 999, 10 ** 6):
            pattern = Text(rules[:4] + [("power", 3, times)])
            self.assertEqual(count_all(pattern, text), 100 * (10 ** 6 - times + 1))
            self.assertEqual(nth_occurrence(pattern, text, 10 ** 6 - times + 1), row)
            self.assertEqual(next_occurrence(pattern, text, 1), block if times < 10 ** 6 else row)
            self.assertEqual(occurrences_around(pattern, text, row - 2)[2], 1)
        part = Text(rules[:4] + [("power", 3, 1000), ("part", 4, 1234, 1000 * 2001 - 77)])
        self.assertEqual(count_all(part, text), 100 * (10 ** 6 - 999))
        place = row // 2
        numbers = range((place - part.length + block - 1234) // block, (place - 1234) // block + 1)
        self.assertEqual(occurrences_around(part, text, place), (1234 + block * numbers[0], block, len(numbers)))


class TestShortPatterns(unittest.TestCase):
    def test_against_counts_by_rules(self):
        for seed in range(40):
            rng = rng_of(seed)
            rules = great_rules(rng, ("join", "power"))
            text = Text(rules)
            place = rng.randrange(max(1, text.length - 20))
            for pattern in ("a", "ab", "aa", text.letters(place, min(text.length, place + rng.randint(1, 20)))):
                self.assertEqual(count_all(letters(pattern), text), slow.count_in_rules(pattern, rules), (pattern, rules))
                back = letters(pattern[::-1])
                self.assertEqual(count_all(back, turned(text)), slow.count_in_rules(pattern, rules))

    def test_words_joined(self):
        """A letter stands in the word of many steps as often as a word of the same row has letters."""
        sizes = [1, 1]
        while len(sizes) < 60:
            sizes.append(sizes[-1] + sizes[-2])
        text = Text(words_joined(56))
        self.assertEqual((count_all(letters("a"), text), count_all(letters("b"), text)), (sizes[56], sizes[55]))
        self.assertEqual(count_all(letters("bb"), text), 0)
        self.assertEqual(count_all(letters("aaa"), text), 0)


class TestAgreement(unittest.TestCase):
    """All functions tell of the same occurrences, and these have the sums of the pattern."""

    def kinds(self):
        for seed in range(10):
            yield seed, great_rules(rng_of(seed))
            yield seed, hard_rules(rng_of(seed))
            yield seed, random_rules(rng_of(seed), 60, MOST, "abc", (2, 3, 10, 10 ** 5))
        yield 0, words_joined(56)
        yield 1, swapped(28)

    def sizes(self, rng, size):
        some = (1, 2, 5, 30, 1000, 10 ** 6, size // 100, size // 3, size)
        return [max(1, min(size, rng.choice(some) + rng.randint(0, 3))) for _ in range(2)]

    def test_parts_as_patterns(self):
        for seed, rules in self.kinds():
            rng, text, sums = rng_of(seed), Text(rules), Sums(rules)
            for size in self.sizes(rng, text.length) if text.length else []:
                start = rng.randint(0, text.length - size)
                self.check(text, sums, start, size, rng)

    def check(self, text, sums, start, size, rng):
        pattern, whole = stretch(text, start, start + size), sums.of(start, start + size)
        self.assertEqual(next_occurrence(pattern, text, start), start)
        self.assertEqual(last_occurrence(pattern, text, start + size), start)
        number = count_occurrences(pattern, text, 0, start + size) - 1
        total = count_all(pattern, text)
        self.assertEqual(nth_occurrence(pattern, text, number), start)
        self.assertEqual(number + count_occurrences(pattern, text, start, text.length), total)
        self.assertIsNone(nth_occurrence(pattern, text, total))
        for other in (0, total - 1, rng.randrange(total)):
            place = nth_occurrence(pattern, text, other)
            self.assertEqual(sums.of(place, place + size), whole)
            self.assertEqual(count_occurrences(pattern, text, 0, place + size), other + 1)
            self.assertEqual(next_occurrence(pattern, text, place), place)
        self.assertEqual(next_occurrence(pattern, text, 0), nth_occurrence(pattern, text, 0))
        self.check_around(pattern, text, rng.randrange(text.length))
        self.check_around(pattern, text, start)
        self.assertEqual(count_all(turned(pattern), turned(text)), total)
        self.assertEqual(count_all(Text.made(retold(pattern.rules)), text), total)

    def check_around(self, pattern, text, place):
        first, step, count = occurrences_around(pattern, text, place)
        low, high = max(0, place - pattern.length + 1), min(text.length, place + pattern.length)
        self.assertEqual(count_occurrences(pattern, text, low, high), count)
        if count:
            self.assertEqual(next_occurrence(pattern, text, low), first)
            self.assertEqual(last_occurrence(pattern, text, high), first + step * (count - 1))
            after = next_occurrence(pattern, text, first + 1)
            self.assertTrue(count == 1 or after == first + step)
            self.assertEqual(step == 0, count == 1)
        else:
            self.assertEqual((first, step), (None, 0))

    def test_patterns_that_are_not_there(self):
        for seed, rules in self.kinds():
            rng, text = rng_of(seed), Text(rules)
            if text.length > 10:
                cut = rng.randint(1, text.length - 1)
                pattern = Text.made([*rules, ("part", len(rules) - 1, 0, cut), ("letters", "~"), ("join", len(rules), len(rules) + 1)])
                self.assertEqual(count_all(pattern, text), 0)
                self.assertIsNone(next_occurrence(pattern, text, 0))
                self.assertIsNone(last_occurrence(pattern, text, text.length))
                self.assertIsNone(nth_occurrence(pattern, text, 0))
                self.assertEqual(occurrences_around(pattern, text, cut), (None, 0, 0))
                self.assertEqual(count_all(text, stretch(text, 0, cut)), 0)
