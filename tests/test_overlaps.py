"""E2: what is an end of one text and a beginning of another one."""

import unittest

from shortheld.common import mismatches, stretch, turned
from shortheld.overlaps import overlaps_of
from shortheld.text import Text
from tests import slow
from tests.great import MOST, Sums, kinds_of_rules, retold, words_joined
from tests.helpers import all_made, random_rules, rng_of
from tests.ways import letters

FAR = 10 ** 11


class OverlapsTest(unittest.TestCase):
    def check(self, first, string, second, other):
        found = overlaps_of(first, second)
        self.assertEqual(found, slow.cut(slow.overlaps(string, other)), (string, other))
        self.assertIsInstance(found, tuple)
        self.assertTrue(all(isinstance(row, tuple) for row in found))


class TestEachLength(OverlapsTest):
    def test_example(self):
        self.assertEqual(overlaps_of(letters("xaba"), letters("abab")), ((1, 2, 2),))

    def test_all_short_texts(self):
        strings = [""]
        for string in strings:
            if len(string) < 5:
                strings += [string + letter for letter in "ab"]
        for string in strings:
            for other in strings[::3]:
                self.check(letters(string), string, letters(other), other)

    def test_a_text_with_itself(self):
        for string in ("a", "aaaa", "abab", "ababa", "aabaabaa", "abcabcab", "abaababaabaab", "ab" * 20, "aab" * 15 + "aa"):
            text = letters(string)
            self.check(text, string, text, string)
            self.check(text, string, Text.made(retold(text.rules)), string)

    def test_texts_by_rules(self):
        for seed in range(1500):
            rng = rng_of(seed)
            rules = random_rules(rng, rng.randint(1, 25), (12, 60, 400)[seed % 3], ("a", "ab", "abc")[seed // 3 % 3])
            made = all_made(rules)
            number = rng.randrange(len(rules))
            first, second = Text(rules), Text(rules[:number + 1])
            self.check(first, made[-1], second, made[number])
            self.check(second, made[number], first, made[-1])
            self.check(first, made[-1], first, made[-1])
            self.check(first, made[-1], Text([*rules, ("back", len(rules) - 1)]), made[-1][::-1])

    def test_many_overlaps(self):
        """Words again and again, with something put in near an end, so that overlaps end there."""
        for seed in range(600):
            rng = rng_of(seed)
            word = "".join([rng.choice("ab") for _ in range(rng.randint(1, 4))])
            strings = []
            for _ in range(2):
                string = word * 40
                place, end = sorted([rng.randint(0, 50), rng.randint(0, 160)])
                strings.append(string[:place] + rng.choice(("", "a", "b", "ab")) + string[place:end])
            cuts = [rng.randint(0, 4) for _ in range(2)]
            first, second = strings[0][cuts[0]:63], strings[1][cuts[1]:63]
            self.check(letters(first[::-1]), first[::-1], letters(second), second)
            self.check(letters(first), first, letters(second), second)

    def test_none(self):
        self.check(letters("ab"), "ab", letters("cd"), "cd")
        self.check(letters("ab"), "ab", letters("aab"), "aab")

    def test_empty_texts(self):
        for empty in (letters(""), Text([("letters", "ab"), ("power", 0, 0)])):
            self.assertEqual(overlaps_of(empty, letters("ab")), ())
            self.assertEqual(overlaps_of(letters("ab"), empty), ())
            self.assertEqual(overlaps_of(empty, empty), ())
            self.assertEqual(overlaps_of(empty, Text([("letters", "a"), ("power", 0, FAR)])), ())

    def test_arguments_stay_as_they_were(self):
        text = Text([["letters", "ab"], ["power", 0, 3]])
        before = dict(vars(text))
        overlaps_of(text, text)
        self.assertEqual(vars(text), before)


class TestGreatTexts(OverlapsTest):
    def test_powers(self):
        one = Text([("letters", "a"), ("power", 0, MOST)])
        self.assertEqual(overlaps_of(one, one), ((1, 1, MOST),))
        long = Text([("letters", "ab"), ("power", 0, FAR)])
        self.assertEqual(overlaps_of(long, long), ((2, 2, FAR),))
        self.assertEqual(overlaps_of(long, turned(long)), ((1, 2, FAR),))
        self.assertEqual(overlaps_of(one, long), ((1, 0, 1),))
        self.assertEqual(overlaps_of(long, one), ())
        self.assertEqual(overlaps_of(long, stretch(long, 0, FAR + 1)), ((2, 2, FAR // 2),))
        self.assertEqual(overlaps_of(stretch(long, 0, FAR + 1), long), ((1, 2, FAR // 2 + 1),))

    def test_powers_with_a_letter_put_in(self):
        rules = [("letters", "ab"), ("power", 0, FAR), ("letters", "x"), ("join", 1, 2), ("join", 3, 1)]
        text, long = Text(rules), Text(rules[:2])
        self.assertEqual(overlaps_of(text, text), ((2, 2, FAR), (4 * FAR + 1, 0, 1)))
        self.assertEqual(overlaps_of(text, long), ((2, 2, FAR),))
        self.assertEqual(overlaps_of(Text(rules[:4]), text), ((2 * FAR + 1, 0, 1),))
        self.assertEqual(overlaps_of(text, stretch(text, 1, 4 * FAR + 1)), ((1, 2, FAR), (4 * FAR, 0, 1)))
        self.assertEqual(overlaps_of(text, stretch(text, 2 * FAR - 6, 4 * FAR + 1)), ((2, 2, 3), (2 * FAR + 7, 0, 1)))

    def test_powers_of_powers(self):
        rules = [("letters", "ab"), ("power", 0, 1000), ("letters", "c"), ("join", 1, 2), ("power", 3, 1000), ("join", 4, 1)]
        text = Text(rules)
        self.assertEqual(overlaps_of(text, text), ((2, 2, 1000), (4001, 2001, 1000)))

    def test_words_joined(self):
        """The overlaps of such a word with itself are it, the one ahead of the last one, and so on by twos."""
        sizes = [1, 1]
        while len(sizes) < 58:
            sizes.append(sizes[-1] + sizes[-2])
        for many in (3, 8, 9, 14, 15, 55, 56):
            text = Text(words_joined(many))
            want = sizes[1 + many % 2:many + 2:2]
            self.assertEqual(overlaps_of(text, text), slow.cut(want))
            if text.length <= 1000:
                string = text.letters(0, text.length)
                self.assertEqual(want, slow.overlaps(string, string))
            for number in want:
                self.assertEqual(mismatches(stretch(text, 0, number), text, text.length - number), ())

    def test_overlaps_put_in(self):
        """Texts that are made so that they have an overlap have it, and the sums of all that are told are the same."""
        for seed, rules in kinds_of_rules(8):
            text, sums, rng = Text(rules), Sums(rules), rng_of(seed)
            start, stop = sorted([rng.randint(0, text.length), rng.randint(0, text.length)])
            first, second = stretch(text, 0, stop), stretch(text, start, text.length)
            found = overlaps_of(first, second)
            self.assertTrue(start == stop or any(self.holds(row, stop - start) for row in found))
            for low, step, count in found:
                for number in {0, count // 2, count - 1}:
                    size = low + step * number
                    self.assertEqual(sums.of(stop - size, stop), sums.of(start, start + size))
            self.assertEqual(overlaps_of(Text.made(retold(first.rules)), second), found)

    def holds(self, row, number):
        first, step, count = row
        return number in range(first, first + max(step, 1) * (count - 1) + 1, max(step, 1))
