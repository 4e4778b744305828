"""H1 and H3 on small texts: changes against strings, and the errors."""

import unittest

from shortheld.changes import insert_at, move_part, part_of, remove_part, repeat_part, replace_part, turn_part
from shortheld.errors import BadTimes, HeldError, NoPart, NoPlace, TooLarge
from shortheld.text import Text
from tests.great import MOST
from tests.helpers import rng_of
from tests.ways import by_rules, letters, random_text, string_of, ways

EMPTY = Text([("letters", "ab"), ("power", 0, 0)])


def parts(many):
    return [(start, stop) for start in range(many + 1) for stop in range(start, many + 1)]


class ChangeTest(unittest.TestCase):
    def check(self, found, string, *texts):
        """What is found is another text with the letters of a string."""
        self.assertIsInstance(found, Text)
        self.assertTrue(all(found is not text for text in texts))
        self.assertEqual(found.length, len(string))
        self.assertEqual(string_of(found), string)
        self.assertEqual((found.lengths[-1], len(found.lengths)), (found.length, len(found.rules)))


class TestAgainstStrings(ChangeTest):
    def check_all(self, text, string, other, words):
        """All changes of all parts of a text."""
        size = len(string)
        for start, stop in parts(size):
            head, part, tail = string[:start], string[start:stop], string[stop:]
            self.check(part_of(text, start, stop), part, text)
            self.check(remove_part(text, start, stop), head + tail, text)
            self.check(replace_part(text, start, stop, other), head + words + tail, text, other)
            self.check(turn_part(text, start, stop), head + part[::-1] + tail, text)
            for times in (0, 1, 2, 5):
                self.check(repeat_part(text, start, stop, times), head + part * times + tail, text)
            rest = head + tail
            for place in {0, len(rest) // 2, len(rest)}:
                self.check(move_part(text, start, stop, place), rest[:place] + part + rest[place:], text)
        for place in range(size + 1):
            self.check(insert_at(text, place, other), string[:place] + words + string[place:], text, other)

    def test_examples(self):
        word = letters("abcde")
        for found, string in ((remove_part(word, 1, 3), "ade"), (insert_at(word, 5, letters("f")), "abcdef"),
                              (replace_part(word, 1, 3, letters("xyz")), "axyzde"), (move_part(word, 0, 2, 3), "cdeab"),
                              (turn_part(word, 1, 4), "adcbe")):
            self.check(found, string, word)
        found = repeat_part(word, 0, 1, 10 ** 11)
        self.assertEqual(found.length, 10 ** 11 + 4)
        self.assertEqual((found.letters(0, 3), found.letters(10 ** 11 - 2, 10 ** 11 + 4)), ("aaa", "aabcde"))

    def test_texts(self):
        for string in ("", "a", "ab", "abcde", "aabaab"):
            for words in ("", "x", "xyz"):
                for text in ways(string):
                    self.check_all(text, string, by_rules(words), words)

    def test_all_moves(self):
        for text in (letters("abcdef"), by_rules("abcdef")):
            for start, stop in parts(6):
                rest = "abcdef"[:start] + "abcdef"[stop:]
                for place in range(len(rest) + 1):
                    want = rest[:place] + "abcdef"[start:stop] + rest[place:]
                    self.check(move_part(text, start, stop, place), want, text)

    def test_texts_by_rules(self):
        for seed in range(25):
            text, string = random_text(seed, 12)
            other, words = random_text(seed + 500, 12)
            self.check_all(text, string, other, words)

    def test_a_text_with_itself(self):
        for text in ways("abc"):
            self.check(insert_at(text, 1, text), "aabcbc", text)
            self.check(replace_part(text, 0, 3, text), "abc", text)
            self.check(replace_part(text, 0, 2, insert_at(text, 0, text)), "abcabcc", text)

    def test_longer_than_is_spelled_at_once(self):
        text, string = Text([("letters", "abcab"), ("power", 0, 400)]), "abcab" * 400
        self.check(turn_part(text, 1, 1999), "a" + string[1:1999][::-1] + "b", text)
        self.check(move_part(text, 3, 1700, 77), (string[:3] + string[1700:])[:77] + string[3:1700]
                   + (string[:3] + string[1700:])[77:], text)
        self.check(remove_part(text, 100, 1099), string[:100] + string[1099:], text)
        self.check(remove_part(text, 100, 1100), string[:100] + string[1100:], text)
        self.check(insert_at(text, 1000, text), string[:1000] + string + string[1000:], text)
        self.check(repeat_part(text, 7, 8, 3000), string[:7] + string[7] * 3000 + string[8:], text)

    def test_texts_stay_as_they_were(self):
        text, other = Text([["letters", "abc"], ["power", 0, 4]]), by_rules("xyz")
        before = [dict(vars(row)) for row in (text, other)]
        changed = [part_of(text, 1, 5), remove_part(text, 1, 5), replace_part(text, 1, 5, other), insert_at(text, 3, other),
                   move_part(text, 0, 4, 2), turn_part(text, 2, 9), repeat_part(text, 2, 5, 3)]
        told = [string_of(found) for found in changed]
        for found in changed:
            insert_at(found, 0, other)
            turn_part(found, 0, 3)
        self.assertEqual([vars(row) for row in (text, other)], before)
        self.assertEqual([string_of(found) for found in changed], told)

    def test_many_changes_one_behind_the_other(self):
        for seed in range(12):
            rng, text, string = rng_of(seed), letters("abcabc"), "abcabc"
            for _ in range(300):
                text, string = self.changed(rng, text, string, (40, 300, 2500)[seed % 3])
                self.assertEqual(text.length, len(string))
                self.assertEqual(string_of(text), string)

    def changed(self, rng, text, string, most):
        """A text and a string with some change of both."""
        size = len(string)
        start, stop = sorted([rng.randint(0, size), rng.randint(0, size)])
        head, part, tail = string[:start], string[start:stop], string[stop:]
        if size > most:
            return remove_part(text, start, stop), head + tail
        kind = rng.randrange(6)
        if kind == 0:
            words = rng.choice(("", "x", "ab", "cabca"))
            return replace_part(text, start, stop, letters(words)), head + words + tail
        if kind == 1:
            return insert_at(text, start, part_of(text, start, stop)), head + part + part + tail
        if kind == 2:
            place = rng.randint(0, size - len(part))
            return move_part(text, start, stop, place), (head + tail)[:place] + part + (head + tail)[place:]
        if kind == 3:
            return turn_part(text, start, stop), head + part[::-1] + tail
        if kind == 4:
            return repeat_part(text, start, stop, 2), head + part * 2 + tail
        return insert_at(text, stop, text), head + part + string + tail


class TestErrors(ChangeTest):
    def check_error(self, kind, told, function, *arguments):
        with self.assertRaises(kind) as caught:
            function(*arguments)
        self.assertIs(caught.exception.__class__, kind)
        self.assertIsInstance(caught.exception, HeldError)
        self.assertEqual(vars(caught.exception), told)

    def no_parts(self, size):
        return ((-1, 0), (-1, size), (0, size + 1), (size + 1, size + 1), (-2, -1), (1, 0), (size, size - 1), (0, MOST + 1),
                (-MOST, MOST))

    def test_no_part(self):
        for text in (letters("abc"), EMPTY, Text([("letters", "ab"), ("power", 0, MOST // 2)])):
            great = Text([("letters", "a"), ("power", 0, MOST)])
            for start, stop in self.no_parts(text.length):
                told = {"start": start, "stop": stop}
                for function in (part_of, remove_part, turn_part):
                    self.check_error(NoPart, told, function, text, start, stop)
                self.check_error(NoPart, told, replace_part, text, start, stop, letters("x"))
                self.check_error(NoPart, told, replace_part, text, start, stop, great)
                for place in (0, -1, text.length + 1, 2 * MOST):
                    self.check_error(NoPart, told, move_part, text, start, stop, place)
                for times in (1, -1, MOST, MOST + 1):
                    self.check_error(NoPart, told, repeat_part, text, start, stop, times)

    def test_no_place(self):
        great = Text([("letters", "a"), ("power", 0, MOST)])
        for text in (letters("abc"), EMPTY, great):
            for place in (-1, text.length + 1, -MOST, 2 * MOST):
                for other in (letters("x"), EMPTY, great):
                    self.check_error(NoPlace, {"place": place}, insert_at, text, place, other)
        for text, start, stop in ((letters("abc"), 0, 1), (letters("abc"), 1, 3), (letters("abc"), 2, 2), (EMPTY, 0, 0)):
            rest = text.length - (stop - start)
            self.assertEqual(move_part(text, start, stop, rest).length, text.length)
            for place in (-1, rest + 1, text.length + 1, MOST):
                self.check_error(NoPlace, {"place": place}, move_part, text, start, stop, place)
        self.check_error(NoPlace, {"place": MOST - 1}, move_part, great, 5, 7, MOST - 1)

    def test_bad_times(self):
        great = Text([("letters", "a"), ("power", 0, MOST)])
        for times in (-1, -2, MOST + 1, 2 * MOST):
            for text, start, stop in ((letters("abc"), 0, 1), (letters("abc"), 1, 1), (EMPTY, 0, 0), (great, 0, MOST)):
                self.check_error(BadTimes, {}, repeat_part, text, start, stop, times)
        self.check(repeat_part(letters("abc"), 1, 1, MOST), "abc")
        self.check(repeat_part(letters("abc"), 0, 3, 0), "")
        self.check(repeat_part(EMPTY, 0, 0, MOST), "")

    def test_too_large(self):
        """Exactly above 10 ** 12 letters."""
        for size in (1, 2, MOST // 3, MOST // 2, MOST - 1, MOST):
            text = Text([("letters", "a"), ("power", 0, size)])
            rest, more = [Text([("letters", "b"), ("power", 0, many)]) for many in (MOST - size, min(MOST, MOST - size + 1))]
            self.assertEqual(insert_at(text, size // 2, rest).length, MOST)
            self.assertEqual(replace_part(text, 0, 1, more).length, MOST)
            self.check_error(TooLarge, {}, insert_at, text, 0, more)
            self.check_error(TooLarge, {}, insert_at, text, size, more)
            self.check_error(TooLarge, {}, replace_part, text, 0, 0, more)
            self.assertEqual(replace_part(text, 0, size, more).length, more.length)

    def test_too_many_times(self):
        text = letters("abc")
        self.assertEqual(repeat_part(text, 0, 1, MOST - 2).length, MOST)
        self.check_error(TooLarge, {}, repeat_part, text, 0, 1, MOST - 1)
        self.check_error(TooLarge, {}, repeat_part, text, 0, 3, MOST)
        self.assertEqual(repeat_part(letters("a"), 0, 1, MOST).length, MOST)
        self.check_error(TooLarge, {}, repeat_part, letters("ab"), 0, 2, MOST // 2 + 1)
        self.assertEqual(repeat_part(letters("ab"), 0, 2, MOST // 2).length, MOST)
        great = Text([("letters", "ab"), ("power", 0, MOST // 2)])
        self.check_error(TooLarge, {}, repeat_part, great, 7, 8, 2)
        self.assertEqual(repeat_part(great, 7, 8, 1).length, MOST)
        self.assertEqual(repeat_part(great, 7, 8, 0).length, MOST - 1)
        self.assertEqual(repeat_part(great, 7, 7, MOST).length, MOST)
