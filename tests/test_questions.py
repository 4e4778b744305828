"""I1: questions, their answers, and the strings that tell them apart."""

import itertools
import unittest

from shortheld.common import same, turned
from shortheld.errors import HeldError
from shortheld.questions import BadQuestion, answer, check_question, key_of
from shortheld.text import Text
from tests import slow
from tests.great import MOST, great_rules, hard_rules, retold
from tests.helpers import rng_of
from tests.ways import by_rules, letters, random_text, short_strings, ways

FAR = 10 ** 11
WORDS = ("same", "occurs", "count")


class TestCheckQuestion(unittest.TestCase):
    def test_right_questions(self):
        for question in (("same", "a", "b"), ("occurs", "a", "a"), ("count", "p", "t"), ("period", "t"), ("period", "same"),
                         ("same", "", "")):
            self.assertIsNone(check_question(question))
            self.assertIsNone(check_question(list(question)))

    def check(self, question, reason):
        for told in (tuple(question), list(question)):
            with self.assertRaises(BadQuestion) as caught:
                check_question(told)
            self.assertEqual(caught.exception.reason, reason)
            self.assertIsInstance(caught.exception, HeldError)

    def test_word(self):
        for question in ((), ("",), ("Same", "a", "b"), ("a", "same", "b"), ("periods", "t"), ("equal", "a", "b"), (None, "a", "b"),
                         (1, "a"), ("letters", "a"), ("nothing",), ("nothing", "a", "b", "c", "d"), (("same",), "a", "b"),
                         (["same"], "a", "b")):
            self.check(question, "word")

    def test_length(self):
        for word in WORDS:
            for names in ((), ("a",), ("a", "b", "c"), ("a", "b", "c", "d")):
                self.check((word, *names), "length")
        for names in ((), ("a", "b"), ("a", "b", "c")):
            self.check(("period", *names), "length")


class TestAnswer(unittest.TestCase):
    def check(self, first, string, second, other):
        for told in ([first, second],):
            self.assertEqual(answer("same", told), slow.first_difference(string, other), (string, other))
            self.assertEqual(answer("occurs", told), slow.first_occurrence(string, other), (string, other))
            self.assertEqual(answer("count", told), len(slow.occurrences(string, other)) if string else None, (string, other))
        self.assertEqual(answer("period", [first]), slow.periods(string)[0] if string else None, string)

    def test_all_short_texts(self):
        for string, other in itertools.product(short_strings("ab", 3), repeat=2):
            self.check(letters(string), string, letters(other), other)

    def test_empty_texts(self):
        for empty in (letters(""), Text([("letters", "ab"), ("power", 0, 0)])):
            for string in ("", "a", "ab"):
                self.check(empty, "", by_rules(string), string)
                self.check(by_rules(string), string, empty, "")
            self.assertIsNone(answer("period", [empty]))
            self.assertIsNone(answer("count", [empty, empty]))
            self.assertIsNone(answer("occurs", [empty, letters("a")]))
            self.assertEqual(answer("count", [letters("a"), empty]), 0)
            self.assertIsNone(answer("occurs", [letters("a"), empty]))
            self.assertEqual(answer("same", [letters("a"), empty]), 0)
            self.assertIsNone(answer("same", [empty, letters("")]))

    def test_texts_by_rules(self):
        for seed in range(150):
            text, string = random_text(seed, 30, ("a", "ab", "abc")[seed % 3])
            start, stop = sorted([rng_of(seed).randint(0, len(string)) for _ in range(2)])
            part = string[start:stop]
            self.check(by_rules(part[:60]), part[:60], text, string)
            self.check(text, string, text, string)
            self.check(*random_text(seed + 1000, 30, "ab"), text, string)

    def test_great_texts(self):
        long = Text([("letters", "ab"), ("power", 0, FAR)])
        other = Text([("letters", "ab"), ("power", 0, FAR - 1), ("letters", "ac"), ("join", 1, 2)])
        ba, most = letters("ba"), Text([("letters", "a"), ("power", 0, MOST)])
        for word, texts, want in (("same", [long, other], 2 * FAR - 1), ("same", [long, Text.made(retold(long.rules))], None),
                                  ("occurs", [ba, long], 1), ("occurs", [letters("ac"), other], 2 * FAR - 2),
                                  ("occurs", [letters("ac"), long], None), ("occurs", [long, other], None),
                                  ("occurs", [long, long], 0), ("count", [ba, long], FAR - 1), ("count", [long, long], 1),
                                  ("count", [letters("aaa"), most], MOST - 2), ("count", [long, most], 0), ("period", [long], 2),
                                  ("period", [other], 2 * FAR), ("period", [most], 1), ("count", [most, long], 0)):
            self.assertEqual(answer(word, texts), want, word)


class TestKeyOf(unittest.TestCase):
    def keys(self, asked):
        found = [key_of(word, texts) for word, texts in asked]
        self.assertTrue(all(isinstance(key, str) for key in found))
        return found

    def test_the_same_texts_by_other_rules(self):
        for string, other in (("abab", "ab"), ("", "a"), ("", ""), ("abcabcab", "abcabcab"), ("~ ", " ~")):
            for word in WORDS:
                self.assertEqual(len(set(self.keys([(word, pair) for pair in itertools.product(ways(string), ways(other))]))), 1)
            self.assertEqual(len(set(self.keys([("period", [text]) for text in ways(string)]))), 1)

    def test_others(self):
        """Questions of another word, about other texts or in another order have other strings."""
        strings = short_strings("ab", 3) + ["aaaa", "abc", "ba "]
        asked = [(word, [by_rules(string), by_rules(other)]) for word in WORDS for string in strings for other in strings]
        asked += [("period", [by_rules(string)]) for string in strings]
        self.assertEqual(len(set(self.keys(asked))), 3 * len(strings) ** 2 + len(strings))

    def test_the_order_counts(self):
        first, second = letters("abab"), letters("aba")
        for word in WORDS:
            self.assertNotEqual(key_of(word, [first, second]), key_of(word, [second, first]))
            self.assertNotEqual(key_of(word, [first, second]), key_of(word, [first, first]))
            self.assertEqual(key_of(word, [first, first]), key_of(word, [first, by_rules("abab")]))

    def test_great_texts(self):
        texts = [Text(kind(rng_of(seed))) for seed in range(5) for kind in (great_rules, hard_rules)]
        texts += [turned(text) for text in texts]
        found = self.keys([("period", [text]) for text in texts])
        self.assertEqual(found, self.keys([("period", [Text.made(retold(text.rules))]) for text in texts]))
        self.assertEqual(found, self.keys([("period", (turned(turned(text)),)) for text in texts]))
        for text, key in zip(texts, found):
            self.assertEqual([key == other for other in found], [same(text, other) for other in texts])
        first, second = texts[:2]
        self.assertEqual(key_of("same", [first, second]), key_of("same", [turned(turned(first)), Text.made(retold(second.rules))]))
        powers = [Text([("letters", "ab"), ("power", 0, many), ("letters", letter), ("join", 1, 2)])
                  for many in (FAR, FAR + 1) for letter in "abc"]
        self.assertEqual(len(set(self.keys([("period", [text]) for text in powers]))), 6)

    def test_texts_stay_as_they_were(self):
        texts = [Text([["letters", "ab"], ["power", 0, 3]]), letters("ba")]
        before, kept = [dict(vars(text)) for text in texts], list(texts)
        key_of("same", texts)
        for word in WORDS:
            answer(word, texts)
        self.assertEqual([vars(text) for text in texts], before)
        self.assertEqual(texts, kept)
