"""F1 and F2: texts in their order, and those that begin with a pattern."""

import itertools
import unittest

from shortheld.common import common_from, compare, stretch, turned
from shortheld.ordering import beginners, beginnings, begins_with, ordering
from shortheld.text import Text
from tests import slow
from tests.great import MOST, great_rules, hard_rules, retold, swapped, words_joined
from tests.helpers import rng_of
from tests.ways import by_rules, letters, random_text, short_strings, ways

FAR = 10 ** 11


def examples():
    """The texts a, b, c of the document."""
    return letters("abab"), Text([("letters", "ab"), ("power", 0, FAR)]), letters("aca")


class TestExamples(unittest.TestCase):
    def test_examples(self):
        a, b, c = examples()
        self.assertEqual(ordering([c, b, a]), ((2, 1, 0), (4, 1)))
        self.assertEqual(beginnings([c, b, a]), 200000000002)
        self.assertEqual(beginners([c, b, a], letters("ab")), (0, 2))
        self.assertEqual(beginners([c, b, a], letters("abc")), (2, 2))


class TestSmallTexts(unittest.TestCase):
    def check(self, texts, strings):
        want = slow.ordering(strings)
        for told in (list(texts), tuple(texts)):
            self.assertEqual(ordering(told), want, strings)
            self.assertEqual(beginnings(told), slow.beginnings(strings), strings)

    def check_beginners(self, texts, strings, pattern, string):
        want = slow.beginners(strings, string)
        for told in (list(texts), tuple(texts)):
            self.assertEqual(beginners(told, pattern), want, (strings, string))
        self.assertEqual([begins_with(text, pattern) for text in texts], [other.startswith(string) for other in strings])

    def test_no_texts(self):
        for texts in ([], ()):
            self.assertEqual(ordering(texts), ((), ()))
            self.assertEqual(beginnings(texts), 0)
            self.assertEqual(beginners(texts, letters("a")), (0, 0))
            self.assertEqual(beginners(texts, letters("")), (0, 0))

    def test_one_text(self):
        for string in ("", "a", "abab", "~ ~"):
            for text in ways(string):
                self.check([text], [string])
                for pattern in ("", "a", "ab", "abab", "ababa", "b", " ", "~"):
                    self.check_beginners([text], [string], by_rules(pattern), pattern)

    def test_empty_texts(self):
        for strings in (["", ""], ["", "a", ""], ["a", "", "b", ""], ["", "", ""]):
            texts = [by_rules(string) for string in strings]
            self.check(texts, strings)
            for pattern in ("", "a", "b", "c"):
                self.check_beginners(texts, strings, letters(pattern), pattern)

    def test_texts_that_are_the_same(self):
        texts = ways("abab") + ways("aba") + ways("abab")
        strings = ["abab"] * 3 + ["aba"] * 3 + ["abab"] * 3
        self.check(texts, strings)
        self.assertEqual(ordering(texts), ((3, 4, 5, 0, 1, 2, 6, 7, 8), (3, 3, 3, 4, 4, 4, 4, 4)))
        self.assertEqual(beginnings(texts), 4)

    def test_beginnings_of_others(self):
        string = "abaababaab"
        strings = [string[:size] for size in (10, 0, 3, 7, 3, 1, 9)]
        texts = [by_rules(other) for other in strings]
        self.check(texts, strings)
        self.assertEqual(beginnings(texts), 10)
        for size in range(11):
            self.check_beginners(texts, strings, letters(string[:size]), string[:size])

    def test_the_order_of_letters(self):
        strings = ["~", " ", "a", "A", "_", "0", "&", "$", "Z", "z", "aa", " ~"]
        self.check([letters(string) for string in strings], strings)

    def test_all_short_texts(self):
        strings = short_strings("ab", 3)
        for chosen in itertools.product(strings, repeat=2):
            self.check([letters(string) for string in chosen], chosen)
        texts = [letters(string) for string in strings]
        for pattern in short_strings("abc", 4):
            self.check_beginners(texts[::-1], strings[::-1], letters(pattern), pattern)

    def test_none_some_and_all(self):
        strings = ["abc", "abd", "b", "abcab", "ab"]
        texts = [by_rules(string) for string in strings]
        for pattern, want in (("", (0, 5)), ("a", (0, 4)), ("ab", (0, 4)), ("abc", (1, 3)), ("abd", (3, 4)), ("aa", (0, 0)),
                              ("abcac", (3, 3)), ("b", (4, 5)), ("c", (5, 5)), ("abcaba", (3, 3))):
            self.assertEqual(beginners(texts, letters(pattern)), want, pattern)
            self.check_beginners(texts, strings, by_rules(pattern), pattern)
        self.assertEqual(beginners(texts[:2] + texts[3:], letters("ab")), (0, 4))

    def test_texts_by_rules(self):
        for seed in range(150):
            rng = rng_of(seed)
            made = [random_text(100 * seed + number, 30, ("a", "ab", "abc")[seed % 3]) for number in range(rng.randint(1, 12))]
            texts, strings = [text for text, _ in made], [string for _, string in made]
            self.check(texts, strings)
            for _ in range(4):
                string = rng.choice(strings)[:rng.randint(0, 6)] + rng.choice(("", "", "a", "~"))
                self.check_beginners(texts, strings, letters(string), string)

    def test_many_texts(self):
        strings = short_strings("ab", 7)
        rng_of(7).shuffle(strings)
        self.check([letters(string) for string in strings], strings)

    def test_arguments_stay_as_they_were(self):
        texts = [letters("b"), Text([["letters", "ab"], ["power", 0, 3]]), letters("")]
        before, kept = [dict(vars(text)) for text in texts], list(texts)
        ordering(texts)
        beginnings(texts)
        beginners(texts, texts[0])
        begins_with(texts[1], texts[0])
        self.assertEqual([vars(text) for text in texts], before)
        self.assertTrue(all(text is other for text, other in zip(texts, kept)) and len(texts) == 3)


class TestGreatTexts(unittest.TestCase):
    def texts(self, seed):
        """Texts many of which have long common beginnings, or are the same."""
        rng = rng_of(seed)
        rules = (great_rules, hard_rules)[seed % 2](rng)
        text = Text(rules)
        last, size = len(rules) - 1, text.length
        cuts = [rng.randint(0, size) for _ in range(3)]
        texts = [stretch(text, 0, cut) for cut in cuts]
        texts += [Text.made([*rules, ("part", last, 0, cut), ("letters", letter), ("join", last + 1, last + 2)])
                  for cut, letter in zip(cuts, "~a ")]
        return texts + [text, Text.made(retold(rules)), turned(text), Text([("letters", "")]), turned(turned(texts[0]))]

    def test_against_pairs_of_texts(self):
        for seed in range(8):
            texts = self.texts(seed)
            numbers, beside = ordering(texts)
            self.assertEqual(sorted(numbers), list(range(len(texts))))
            self.assertEqual(len(beside), len(texts) - 1)
            for left, right, many in zip(numbers, numbers[1:], beside):
                order = compare(texts[left], texts[right])
                self.assertTrue(order < 0 or order == 0 and left < right)
                self.assertEqual(many, common_from(texts[left], 0, texts[right], 0))
            self.check_least(texts, numbers, beside)
            self.check_beginnings(texts)

    def check_least(self, texts, numbers, beside):
        """The common beginning of two texts is the least of those of the neighbours between them."""
        for low in range(len(numbers)):
            for high in range(low + 1, len(numbers)):
                many = common_from(texts[numbers[low]], 0, texts[numbers[high]], 0)
                self.assertEqual(many, min(beside[low:high]))

    def check_beginnings(self, texts):
        """Each text adds those of its beginnings that none of those ahead of it in the list has."""
        want = 0
        for number, text in enumerate(texts):
            want += text.length - max([common_from(text, 0, other, 0) for other in texts[:number]], default=0)
        self.assertEqual(beginnings(texts), want)

    def test_beginners(self):
        for seed in range(4):
            texts = self.texts(seed)
            numbers = ordering(texts)[0]
            for pattern in (texts[0], texts[3], texts[7], stretch(texts[6], 0, texts[6].length // 2), letters("~")):
                found = [begins_with(text, pattern) for text in texts]
                self.assertEqual(found, [common_from(text, 0, pattern, 0) == pattern.length for text in texts])
                start, stop = beginners(texts, pattern)
                self.assertEqual(start, len([text for text in texts if compare(text, pattern) < 0]))
                self.assertEqual(stop - start, sum(found))
                self.assertEqual(sorted(numbers[start:stop]), [number for number, begins in enumerate(found) if begins])

    def test_words(self):
        """Words of which each one begins the next one, and one with its letters changed."""
        texts = [Text(words_joined(many)) for many in range(1, 57)]
        self.assertEqual(ordering(texts[::-1])[0], tuple(range(55, -1, -1)))
        self.assertEqual(ordering(texts)[1], tuple([text.length for text in texts[:-1]]))
        self.assertEqual(beginnings(texts), texts[-1].length)
        self.assertEqual(beginners(texts, texts[30]), (30, 56))
        some = [Text(swapped(many)) for many in range(20, 28)]
        self.assertEqual(beginnings(some), some[-1].length)

    def test_powers(self):
        texts = [Text([("letters", "ab"), ("power", 0, MOST // 2 - number), ("letters", "ac"), ("join", 1, 2)])
                 for number in range(1, 5)]
        self.assertEqual(ordering(texts), ((0, 1, 2, 3), tuple([MOST - 2 * number + 1 for number in range(2, 5)])))
        self.assertEqual(beginnings(texts), MOST + 3)
        pattern = Text([("letters", "ab"), ("power", 0, MOST // 2 - 3)])
        self.assertEqual(beginners(texts, pattern), (0, 3))
        self.assertEqual(beginners(texts, Text([("letters", "ab"), ("power", 0, MOST // 2)])), (0, 0))
        self.assertEqual(beginners(texts, Text([("letters", "a"), ("power", 0, MOST)])), (0, 0))
        self.assertEqual(beginners(texts, Text([("letters", "b"), ("power", 0, MOST)])), (4, 4))
