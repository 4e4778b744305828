"""C1 to C3 on great texts, of which nobody can go through the letters one by one."""

import unittest

from shortheld.common import (common_from, common_to, compare, first_difference, mismatches, same, stretch,
                              turned)
from shortheld.text import Text
from tests.great import MOST, Sums, great_rules, hard_rules, retold, swapped, words_joined
from tests.helpers import random_rules, rng_of

FAR = 10 ** 11


def long_and_other():
    """The two texts of the examples."""
    word = [("letters", "ab"), ("power", 0, FAR)]
    return Text(word), Text(word[:1] + [("power", 0, FAR - 1), ("letters", "ac"), ("join", 1, 2)])


def with_letter(rules, size, place, letter):
    """Rules of a text with another letter at a place."""
    last = len(rules) - 1
    return rules + [("part", last, 0, place), ("letters", letter), ("part", last, place + 1, size),
                    ("join", last + 1, last + 2), ("join", last + 4, last + 3)]


class TestExamples(unittest.TestCase):
    def test_long_and_other(self):
        long, other = long_and_other()
        self.assertEqual(first_difference(long, other), 199999999999)
        self.assertEqual(compare(long, other), -1)
        self.assertEqual(compare(other, long), 1)
        self.assertEqual(common_from(long, 1, long, 3), 199999999997)
        self.assertEqual(common_to(long, 2, long, 200000000000), 2)
        self.assertEqual(mismatches(Text.of_letters("abab"), other, 199999999996), (3,))
        self.assertIsNone(mismatches(long, other, 1))
        self.assertEqual(mismatches(long, other, 0), (199999999999,))
        self.assertFalse(same(long, other))


def kinds_of_rules():
    """Rules of great texts of many kinds."""
    for seed in range(8):
        yield seed, great_rules(rng_of(seed))
        yield seed, hard_rules(rng_of(seed))
        yield seed, random_rules(rng_of(seed), 60, MOST, "abc", (2, 3, 10, 10 ** 5))
    yield 0, words_joined(56)
    yield 1, swapped(28)


class TestAgainstSums(unittest.TestCase):
    """What is told to be the same has the same sums, and the letters beside it differ."""

    def places(self, rng, size):
        return rng.choice((0, size, rng.randint(0, size), min(size, rng.randint(0, 100)), max(0, size - rng.randint(0, 9))))

    def check_from(self, first, sums, start, second, others, at):
        many = common_from(first, start, second, at)
        self.assertEqual(sums.of(start, start + many), others.of(at, at + many))
        if start + many < first.length and at + many < second.length:
            self.assertNotEqual(first.letter(start + many), second.letter(at + many))

    def check_to(self, first, sums, stop, second, others, at):
        many = common_to(first, stop, second, at)
        self.assertEqual(sums.of(stop - many, stop), others.of(at - many, at))
        if many < stop and many < at:
            self.assertNotEqual(first.letter(stop - many - 1), second.letter(at - many - 1))

    def test_one_text_at_two_places(self):
        for seed, rules in kinds_of_rules():
            rng, text, sums = rng_of(seed), Text(rules), Sums(rules)
            for _ in range(4):
                start, at = self.places(rng, text.length), self.places(rng, text.length)
                self.check_from(text, sums, start, text, sums, at)
                self.check_to(text, sums, start, text, sums, at)

    def test_a_text_and_one_of_its_rules(self):
        for seed, rules in kinds_of_rules():
            rng = rng_of(seed)
            fewer = rules[:rng.randint(len(rules) // 2, len(rules))]
            if rng.random() < 0.5:
                fewer = fewer + [("back", len(fewer) - 1)]
            text, sums, other, others = Text(rules), Sums(rules), Text.made(fewer), Sums(fewer)
            for _ in range(3):
                start, at = self.places(rng, text.length), self.places(rng, other.length)
                self.check_from(text, sums, start, other, others, at)
                self.check_to(other, others, at, text, sums, start)

    def test_mismatches(self):
        for seed, rules in kinds_of_rules():
            rng, text = rng_of(seed), Text(rules)
            start, stop, place = sorted([rng.randint(0, text.length) for _ in range(3)])
            pattern = stretch(text, start, stop)
            place = min(place, text.length - pattern.length)
            sums = Sums(rules)
            found = mismatches(pattern, text, place, limit=5)
            ends = [0] + [miss + 1 for miss in found]
            for low, high in zip(ends, found + (() if len(found) == 5 else (pattern.length,))):
                self.assertEqual(sums.of(start + low, start + high), sums.of(place + low, place + high))
            for miss in found:
                self.assertNotEqual(pattern.letter(miss), text.letter(place + miss))
            self.assertEqual(mismatches(pattern, text, place, limit=2), found[:2])
            self.assertEqual(mismatches(pattern, text, start), ())


class TestSameByOtherRules(unittest.TestCase):
    def check_same(self, first, second):
        size = first.length
        self.assertIs(same(first, second), True)
        self.assertIsNone(first_difference(first, second))
        self.assertEqual(compare(first, second), 0)
        self.assertEqual(common_from(first, 0, second, 0), size)
        self.assertEqual(common_to(first, size, second, size), size)
        self.assertEqual(mismatches(first, second, 0), ())

    def check_other(self, first, second, place, order):
        """They differ first at this place."""
        self.assertIs(same(first, second), False)
        self.assertEqual((first_difference(first, second), first_difference(second, first)), (place, place))
        self.assertEqual((compare(first, second), compare(second, first)), (order, -order))

    def test_retold(self):
        for _, rules in kinds_of_rules():
            self.check_same(Text(rules), Text.made(retold(rules)))

    def test_turned_twice_and_put_together_again(self):
        for seed, rules in kinds_of_rules():
            text = Text(rules)
            self.check_same(text, turned(turned(text)))
            self.check_same(stretch(text, 0, text.length), text)
            self.check_same(turned(stretch(text, text.length // 3, text.length)),
                            stretch(turned(text), 0, text.length - text.length // 3))

    def test_a_beginning(self):
        for seed, rules in kinds_of_rules():
            text = Text(rules)
            if text.length:
                size = rng_of(seed).randrange(text.length)
                self.check_other(stretch(text, 0, size), text, size, -1)
                self.check_other(Text.made(retold(rules)), stretch(text, 0, text.length - 1), text.length - 1, 1)

    def test_one_other_letter(self):
        for seed, rules in kinds_of_rules():
            text = Text(rules)
            if text.length:
                for place in (0, rng_of(seed).randrange(text.length), text.length - 1):
                    for letter, order in (("~", -1), (" ", 1)):
                        other = Text.made(with_letter(rules, text.length, place, letter))
                        self.check_other(text, other, place, order)
                        self.assertEqual(mismatches(other, text, 0), (place,))
                        self.assertEqual(common_to(text, text.length, other, text.length), text.length - place - 1)

    def test_the_most_letters(self):
        one = Text([("letters", "ab"), ("power", 0, MOST // 2)])
        two = Text([("letters", "ba"), ("power", 0, MOST // 2 - 1), ("letters", "a"), ("letters", "b"), ("join", 2, 1),
                    ("join", 4, 3)])
        self.check_same(one, two)
        self.check_other(one, Text([("letters", "a"), ("power", 0, MOST)]), 1, 1)
        self.check_other(one, turned(one), 0, -1)
        self.check_other(one, Text([("letters", "")]), 0, 1)

    def test_empty(self):
        self.check_same(Text([("letters", "ab"), ("power", 0, FAR), ("part", 1, FAR, FAR)]), Text([("letters", "")]))


class TestMismatchesOfGreatTexts(unittest.TestCase):
    def test_every_second_place(self):
        pattern = Text([("letters", "ab"), ("power", 0, MOST // 2)])
        text = Text([("letters", "ac"), ("power", 0, MOST // 2)])
        self.assertEqual(mismatches(pattern, text, 0), tuple(range(1, 33, 2)))
        for limit in (0, 1, 16, 17, 20000):
            self.assertEqual(mismatches(pattern, text, 0, limit=limit), tuple(range(1, 2 * limit, 2)))
        self.assertIsNone(mismatches(pattern, text, 1))

    def test_all_letters_in_runs(self):
        pattern = Text([("letters", "a"), ("power", 0, FAR)])
        text = Text([("letters", "b"), ("power", 0, 2 * FAR)])
        self.assertEqual(mismatches(pattern, text, FAR, limit=1000), tuple(range(1000)))
        self.assertIsNone(mismatches(pattern, text, FAR + 1, limit=1000))

    def test_some_letters_put_in(self):
        rules = [("letters", "abc"), ("power", 0, FAR)]
        places = (5, 6, 7 * 10 ** 9, 2 * FAR + 1, 3 * FAR - 1)
        told = list(rules)
        for place in places:
            told = with_letter(told, 3 * FAR, place, "x")
        text, other = Text(rules), Text.made(told)
        self.assertEqual(mismatches(text, other, 0), places)
        self.assertEqual(mismatches(other, text, 0, limit=3), places[:3])
        self.assertEqual(mismatches(stretch(text, 6, 3 * FAR - 3), other, 6), (0, 7 * 10 ** 9 - 6, 2 * FAR - 5))
        self.assertEqual(mismatches(Text.of_letters(""), other, 3 * FAR), ())


class TestPartsAndTurned(unittest.TestCase):
    def test_letters(self):
        for seed, rules in kinds_of_rules():
            rng, text = rng_of(seed), Text(rules)
            start, stop = sorted([rng.randint(0, text.length), rng.randint(0, text.length)])
            part = stretch(text, start, stop)
            back = turned(part)
            self.assertEqual((part.length, back.length), (stop - start, stop - start))
            some = min(100, part.length)
            self.assertEqual(part.letters(0, some), text.letters(start, start + some))
            self.assertEqual(part.letters(part.length - some, part.length), text.letters(stop - some, stop))
            self.assertEqual(back.letters(0, some), text.letters(stop - some, stop)[::-1])
            self.assertEqual(back.letters(back.length - some, back.length), text.letters(start, start + some)[::-1])
            self.assertEqual((text.rules, text.length), (tuple(rules), text.lengths[-1]))
