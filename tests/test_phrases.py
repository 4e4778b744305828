"""H2: what phrases spell beside a text."""

import unittest

from shortheld.changes import BadPhrase, apply_phrases
from shortheld.common import same, stretch, turned
from shortheld.cuts import shortest_cut
from shortheld.errors import HeldError, TooLarge
from shortheld.text import Text
from tests import slow
from tests.great import MOST, great_rules, hard_rules
from tests.helpers import rng_of
from tests.ways import by_rules, letters, string_of, ways

FAR = 10 ** 11


def random_phrases(rng, size, many, most):
    """Right phrases beside a text of so many letters, and how many letters they spell."""
    phrases, spelled = [], 0
    while len(phrases) < many:
        kind = rng.choice(("letter", 0, 1, 1))
        if kind == "letter":
            phrase, more = ("letter", rng.choice("abx~ ")), 1
        elif kind == 0 and size:
            start = rng.randrange(size)
            more = rng.randint(1, min(size - start, most))
            phrase = ("copy", 0, start, more)
        elif kind == 1 and spelled:
            start = rng.choice((rng.randrange(spelled), spelled - 1, max(0, spelled - 3)))
            more = rng.randint(1, most)
            phrase = ("copy", 1, start, more)
        else:
            continue
        phrases.append(phrase)
        spelled += more
    return phrases, spelled


class TestSpelled(unittest.TestCase):
    def check(self, text, string, phrases):
        want = slow.phrases_spelled(string, phrases)
        for told in (phrases, tuple(phrases), [list(phrase) for phrase in phrases], tuple([list(phrase) for phrase in phrases])):
            found = apply_phrases(text, told)
            self.assertIsInstance(found, Text)
            self.assertEqual(string_of(found), want, (string, phrases))

    def test_example(self):
        phrases = (("copy", 0, 1, 2), ("letter", "x"), ("copy", 1, 1, 5))
        self.assertEqual(string_of(apply_phrases(letters("abcde"), phrases)), "bcxcxcxc")
        self.check(letters("abcde"), "abcde", phrases)

    def test_no_phrases(self):
        for text in (letters(""), letters("abc"), Text([("letters", "a"), ("power", 0, MOST)])):
            for phrases in ((), []):
                found = apply_phrases(text, phrases)
                self.assertIsInstance(found, Text)
                self.assertEqual(found.length, 0)

    def test_copies_that_go_on_into_what_they_spell(self):
        for start in range(5):
            for many in range(1, 20):
                for text in ways("abcde"):
                    self.check(text, "abcde", [("copy", 0, 0, 5), ("copy", 1, start, many)])
                    self.check(text, "abcde", [("copy", 0, 0, 5), ("copy", 1, start, many), ("copy", 1, start + 1, many)])

    def test_random_phrases(self):
        for seed in range(200):
            rng = rng_of(seed)
            string = "".join([rng.choice("abc") for _ in range(rng.choice((0, 1, 5, 30)))])
            self.check(by_rules(string), string, random_phrases(rng, len(string), rng.randint(1, 30), (3, 20)[seed % 2])[0])

    def test_more_letters_than_are_spelled_at_once(self):
        for seed in range(20):
            rng, string = rng_of(seed), "abcabcaab" * 4
            self.check(by_rules(string), string, random_phrases(rng, len(string), 60, 300)[0])

    def test_many_phrases(self):
        phrases, spelled = random_phrases(rng_of(3), 10, 3000, 3)
        found = apply_phrases(letters("abcdefghij"), phrases)
        self.assertEqual(string_of(found), slow.phrases_spelled("abcdefghij", phrases))

    def test_phrases_of_a_shortest_cut(self):
        for seed in range(20):
            rng = rng_of(seed)
            first, second = ["".join([rng.choice("ab") for _ in range(rng.choice((0, 3, 400, 1900)))]) for _ in range(2)]
            cut = shortest_cut([letters(first), letters(second)])
            self.assertEqual(string_of(apply_phrases(letters(first), cut[1])), second)

    def test_texts_stay_as_they_were(self):
        text, phrases = Text([["letters", "abc"], ["power", 0, 4]]), [["copy", 0, 2, 5], ["letter", "x"], ["copy", 1, 0, 9]]
        before, told = dict(vars(text)), [list(phrase) for phrase in phrases]
        apply_phrases(text, phrases)
        self.assertEqual((vars(text), phrases), (before, told))


class TestWrongPhrases(unittest.TestCase):
    RIGHT = [("copy", 0, 0, 3), ("letter", "x"), ("copy", 1, 3, 4)]

    WRONG = [(), [], ("letter",), ("letter", "a", "b"), ("letter", ""), ("letter", "ab"), ("letter", 1), ("letter", None),
             ("letter", "\n"), ("letter", chr(37)), ("letter", "\u00e4"), ("letter", ["a"]), ("letters", "a"), ("copy",), ("copy", 0, 0),
             ("copy", 0, 0, 1, 1), ("copy", 2, 0, 1), ("copy", -1, 0, 1), ("copy", None, 0, 1), ("copy", "0", 0, 1),
             ("copy", 0, -1, 2), ("copy", 0, 0, 0), ("copy", 0, 0, -1), ("copy", 0, 0, 4), ("copy", 0, 3, 1), ("copy", 0, 4, 1),
             ("copy", 0, 2, 2), ("copy", 0, 0, MOST), ("copy", 0, MOST, 1), ("copy", 0, "0", 1), ("copy", 0, 0, "1"),
             ("copy", 1, -1, 2), ("copy", 1, 0, 0), ("copy", 1, 0, -3), ("copy", 1, 100, 1), ("copy", 1, MOST, 1), (1, 2),
             ("copy", 0, None, 1), ("", "a"), None, "letter", "a", 7, ("take", 0, 0, 1), ("copy", 0, 0, 1.0)]

    def check(self, text, phrases, number):
        for told in (phrases, tuple(phrases)):
            with self.assertRaises(BadPhrase) as caught:
                apply_phrases(text, told)
            self.assertEqual(caught.exception.number, number)
            self.assertIsInstance(caught.exception, HeldError)

    def test_each_way_to_be_wrong(self):
        for text in ways("abc"):
            self.assertEqual(string_of(apply_phrases(text, self.RIGHT)), "abcxxxxx")
            for wrong in self.WRONG:
                self.check(text, [wrong], 0)
                self.check(text, [*self.RIGHT, wrong], 3)
                self.check(text, [self.RIGHT[0], wrong, *self.RIGHT], 1)
                if isinstance(wrong, tuple):
                    self.check(text, [*self.RIGHT, list(wrong)], 3)

    def test_at_the_ends(self):
        """From the last letter that is spelled a copy goes, from the place behind it none does."""
        text = letters("abc")
        self.assertEqual(string_of(apply_phrases(text, [("letter", "x"), ("copy", 1, 0, 5)])), "xxxxxx")
        self.check(text, [("letter", "x"), ("copy", 1, 1, 1)], 1)
        self.check(text, [("copy", 1, 0, 1)], 0)
        self.assertEqual(string_of(apply_phrases(text, [("copy", 0, 2, 1), ("copy", 0, 0, 3)])), "cabc")
        self.check(text, [("copy", 0, 2, 1), ("copy", 0, 1, 3)], 1)
        self.check(letters(""), [("copy", 0, 0, 1)], 0)

    def test_the_first_wrong_one(self):
        text = letters("abc")
        wrong = ("copy", 0, 0, 4)
        self.check(text, [("letter", "a"), wrong, ("letter", "b"), wrong, ()], 1)
        self.check(text, [("letter", "a"), ("letter", "b"), (), wrong], 2)
        self.check(text, [wrong] * 5, 0)

    def test_too_large(self):
        text = letters("a")
        most = [("letter", "a"), ("copy", 1, 0, MOST - 1)]
        self.assertEqual(apply_phrases(text, most).length, MOST)
        great = Text([("letters", "ab"), ("power", 0, MOST // 2)])
        self.assertEqual(apply_phrases(great, [("copy", 0, 0, MOST)]).length, MOST)
        for told, phrases in ((text, [("letter", "a"), ("copy", 1, 0, MOST)]), (text, [*most, ("letter", "b")]),
                              (text, [("letter", "a"), ("copy", 1, 0, 10 ** 30)]), (great, [("copy", 0, 0, MOST), ("copy", 0, 5, 1)]),
                              (great, [("copy", 0, 0, MOST)] * 3)):
            with self.assertRaises(TooLarge):
                apply_phrases(told, phrases)
            with self.assertRaises(TooLarge):
                apply_phrases(told, tuple([list(phrase) for phrase in phrases]))
            self.check(told, [*phrases, ("letter", "")], len(phrases))
            self.check(told, [*phrases, ("copy", 1, 10 ** 40, 1), *phrases], len(phrases))


class TestGreatTexts(unittest.TestCase):
    def test_powers(self):
        text = apply_phrases(letters("ab"), [("copy", 0, 0, 2), ("copy", 1, 0, MOST - 2)])
        self.assertTrue(same(text, Text([("letters", "ab"), ("power", 0, MOST // 2)])))
        text = apply_phrases(letters(""), [("letter", "a"), ("copy", 1, 0, FAR), ("letter", "b"), ("copy", 1, 5, 7 * FAR)])
        rules = [("letters", "a"), ("power", 0, FAR + 1), ("letters", "b"), ("join", 1, 2), ("part", 3, 5, FAR + 2),
                 ("power", 4, 9), ("part", 5, 0, 7 * FAR), ("join", 3, 6)]
        self.assertTrue(same(text, Text(rules)))
        text = apply_phrases(Text(rules), [("copy", 0, 5, 3), ("copy", 0, FAR, 4), ("copy", 1, 2, 3 * FAR)])
        self.assertEqual(text.length, 3 * FAR + 7)
        want = "aaa" + Text(rules).letters(FAR, FAR + 4)
        self.assertEqual(text.letters(0, 100), slow.phrases_spelled(want, [("copy", 0, 0, 7), ("copy", 1, 2, 93)]))

    def test_letters_at_some_places(self):
        """Where a letter of what is spelled comes from, phrase by phrase backwards."""
        for seed in range(20):
            rng = rng_of(seed)
            source = Text((great_rules, hard_rules)[seed % 2](rng))
            phrases, size = [], 0
            while len(phrases) < 40:
                more, size = self.great_phrases(rng, source.length, size)
                phrases += more
            text = apply_phrases(source, phrases)
            self.assertEqual(text.length, size)
            for place in [rng.randrange(size) for _ in range(60)] + [0, size - 1]:
                self.assertEqual(text.letter(place), self.letter_at(source, phrases, place))

    def great_phrases(self, rng, length, size):
        kind = rng.randrange(3)
        if kind == 0 or length == 0 or size == 0:
            return [("letter", rng.choice("ab~"))], size + 1
        if kind == 1:
            start = rng.randrange(length)
            many = rng.randint(1, min(length - start, rng.choice((3, 1000, MOST))))
            source = 0
        else:
            start = rng.randrange(size)
            many = rng.randint(1, rng.choice((3, 1000, 10 ** 9)))
            source = 1
        return ([], size) if size + many > MOST else ([("copy", source, start, many)], size + many)

    def letter_at(self, source, phrases, place):
        ends = [0]
        for phrase in phrases:
            ends.append(ends[-1] + (1 if phrase[0] == "letter" else phrase[3]))
        while True:
            number = next(number for number, end in enumerate(ends[1:]) if place < end)
            phrase = phrases[number]
            if phrase[0] == "letter":
                return phrase[1]
            if phrase[1] == 0:
                return source.letter(phrase[2] + place - ends[number])
            # The letters from the start on are repeated, as many as there are ahead of the phrase.
            place = phrase[2] + (place - ends[number]) % (ends[number] - phrase[2])

    def test_parts_put_together(self):
        for seed in range(16):
            rng, rules = rng_of(seed), (great_rules, hard_rules)[seed % 2](rng_of(seed))
            text, last = Text(rules), len(rules) - 1
            low, high = sorted([rng.randint(0, text.length), rng.randint(0, text.length)])
            if 0 < low < high < text.length < MOST // 4:
                found = apply_phrases(text, [("copy", 0, low, high - low), ("copy", 0, 0, low), ("copy", 0, high, text.length - high),
                                             ("copy", 1, 0, high), ("copy", 1, text.length, high + low)])
                told = [*rules, ("part", last, low, high), ("part", last, 0, low), ("part", last, high, text.length),
                        ("join", last + 1, last + 2), ("join", last + 4, last + 3), ("part", last + 4, 0, low),
                        ("join", last + 5, last + 4), ("join", last + 7, last + 4), ("join", last + 8, last + 6)]
                want = Text.made(told)
                self.assertEqual(found.length, text.length + 2 * high + low)
                self.assertTrue(same(found, want))
                self.assertTrue(same(turned(found), Text.made([*told, ("back", len(told) - 1)])))
                self.assertTrue(same(stretch(found, 0, high), stretch(found, text.length, text.length + high)))
