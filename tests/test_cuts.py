"""G1 to G4: cuts of texts into letters and copies."""

import itertools
import unittest

from shortheld.common import common_from, turned
from shortheld.cuts import TooManyLetters, is_cut, shortest_cut, store_bound
from shortheld.errors import HeldError
from shortheld.store import store_of
from shortheld.text import LETTERS, Text
from tests import slow
from tests.great import MOST, great_rules, retold, swapped, words_joined
from tests.helpers import rng_of, size_made
from tests.ways import by_rules, letters, random_text, repeated, short_strings, ways

FAR = 10 ** 11

WORDS = (["abab", "babx"], ["aaaa"], ["abcabcab", "", "cab", "abcabc"], ["", ""], [], ["a", "a", "a"], ["abaab", "baaba", "abaab"])


def texts_of(strings):
    return [by_rules(string) for string in strings]


def by_lists(cut):
    return [[list(phrase) for phrase in row] for row in cut]


def random_strings(seed):
    rng = rng_of(seed)
    return [repeated(100 * seed + number, 12) if seed % 2 else random_text(100 * seed + number, 20, "ab")[1]
            for number in range(rng.randint(1, 4))]


def random_cut(rng, strings):
    """Some right cut: at each place some copy that goes, or the letter."""
    rows = []
    for number, string in enumerate(strings):
        row, place = [], 0
        while place < len(string):
            copies = [(source, start, slow.common_from(strings[source], start, string, place))
                      for source in range(number + 1) for start in range(len(strings[source]) if source < number else place)]
            copies = [copy for copy in copies if copy[2]]
            if copies and rng.random() < 0.7:
                source, start, many = rng.choice(copies)
                row.append(("copy", source, start, rng.randint(1, many)))
                place += row[-1][3]
            else:
                row.append(("letter", string[place]))
                place += 1
        rows.append(tuple(row))
    return tuple(rows)


class TestIsCut(unittest.TestCase):
    def check(self, strings, cut, texts=None):
        """The answer is what the letters tell, for lists and for tuples."""
        want = len(cut) == len(strings) and slow.spelled_by(strings, cut) == list(strings)
        texts = texts_of(strings) if texts is None else texts
        for told in (cut, by_lists(cut)):
            self.assertIs(is_cut(texts, told), want, (strings, cut))
            self.assertIs(is_cut(tuple(texts), told), want)
        return want

    def test_examples(self):
        self.assertTrue(self.check(["abab", "babx"], ((("letter", "a"), ("letter", "b"), ("copy", 0, 0, 2)),
                                                      (("copy", 0, 1, 3), ("letter", "x")))))

    def test_letters_alone(self):
        for strings in WORDS:
            self.assertTrue(self.check(strings, [[("letter", letter) for letter in string] for string in strings]))

    def test_right_cuts(self):
        for seed in range(80):
            strings = random_strings(seed)
            self.assertTrue(self.check(strings, random_cut(rng_of(seed), strings)))

    def test_a_copy_that_goes_on_into_itself(self):
        self.assertTrue(self.check(["abababa"], [[("letter", "a"), ("letter", "b"), ("copy", 0, 0, 5)]]))
        self.assertTrue(self.check(["aaaaaa"], [[("letter", "a"), ("copy", 0, 0, 5)]]))
        self.assertFalse(self.check(["aaaaab"], [[("letter", "a"), ("copy", 0, 0, 5)]]))
        self.assertTrue(self.check(["x", "abcbcbcx"], [[("letter", "x")], [("letter", "a"), ("letter", "b"), ("letter", "c"),
                                                       ("copy", 1, 1, 4), ("copy", 0, 0, 1)]]))

    def test_an_earlier_text(self):
        first = [("letter", "a"), ("letter", "b"), ("letter", "c")]
        self.assertTrue(self.check(["abc", "abc"], [first, [("copy", 0, 0, 3)]]))
        self.assertTrue(self.check(["abc", "bc"], [first, [("copy", 0, 1, 2)]]))
        # It ends where the earlier text ends: it does not go on into what it spells itself.
        self.assertFalse(self.check(["abc", "bcbc"], [first, [("copy", 0, 1, 4)]]))
        self.assertFalse(self.check(["abc", "bca"], [first, [("copy", 0, 1, 3)]]))
        self.assertFalse(self.check(["abc", "a"], [first, [("copy", 0, 3, 1)]]))

    def test_not_spelled_yet(self):
        for start, want in ((-1, False), (0, True), (1, False), (2, False), (3, False)):
            self.assertIs(self.check(["aaa"], [[("letter", "a"), ("copy", 0, start, 2)]]), want)
        self.assertFalse(self.check(["aaa"], [[("copy", 0, 0, 3)]]))
        self.assertFalse(self.check(["b", "aaa"], [[("letter", "b")], [("copy", 1, 0, 3)]]))

    def test_a_later_text(self):
        rows = [[("letter", "a"), ("letter", "a")], [("letter", "a"), ("copy", 0, 0, 1)]]
        self.assertTrue(self.check(["aa", "aa"], rows))
        for source in (1, 2, -1, -2, MOST):
            self.assertFalse(self.check(["aa", "aa"], [[("letter", "a"), ("copy", source, 0, 1)], rows[1]]))
        self.assertFalse(self.check(["aa", "aa"], [rows[0], [("letter", "a"), ("copy", 2, 0, 1)]]))

    def test_one_thing_changed(self):
        """Another letter, source, start or length; a phrase left out or put in twice; a row more or less."""
        wrong = 0
        for seed in range(30):
            strings = random_strings(seed)
            cut = by_lists(random_cut(rng_of(seed), strings))
            texts = texts_of(strings)
            for row, phrase in [(row, number) for row in range(len(cut)) for number in range(len(cut[row]))]:
                for other in self.others(cut[row][phrase], strings[row]):
                    rows = by_lists(cut)
                    rows[row][phrase:phrase + 1] = other
                    wrong += not self.check(strings, rows, texts)
            for rows in (cut + [[]], cut[:-1], [[]] + cut, cut + cut[-1:], cut[::-1], []):
                self.check(strings, rows, texts)
        self.assertGreater(wrong, 3000)

    def others(self, phrase, string):
        """What can stand in place of a phrase."""
        yield []
        yield [phrase, phrase]
        for letter in "abx~ ":
            yield [("letter", letter)]
        if phrase[0] == "copy":
            for place in (1, 2, 3):
                for number in (-MOST, -1, 0, phrase[place] - 1, phrase[place] + 1, len(string), len(string) + 1, MOST):
                    yield [phrase[:place] + [number] + phrase[place + 1:]]

    def test_no_letter(self):
        self.assertFalse(self.check(["aa"], [[("letter", "a"), ("copy", 0, 0, 0), ("letter", "a")]]))
        self.assertFalse(self.check(["aa"], [[("letter", "a"), ("letter", "a"), ("copy", 0, 0, 0)]]))
        self.assertFalse(self.check(["aa"], [[("letter", "a"), ("letter", "a"), ("copy", 0, 0, -1)]]))
        self.assertFalse(self.check(["aa"], [[("letter", "a"), ("copy", 0, 0, 2), ("copy", 0, 0, -1)]]))

    def test_no_texts_and_empty_texts(self):
        for strings, cut, want in (([], [], True), ([], [[]], False), ([""], [[]], True), ([""], [], False), ([""], [[], []], False),
                                   ([""], [[("letter", "a")]], False), ([""], [[("copy", 0, 0, 1)]], False),
                                   (["", "a"], [[], [("letter", "a")]], True), (["", "a"], [[("letter", "a")], []], False),
                                   (["", "a"], [[], [("copy", 0, 0, 1)]], False), (["a", "", "a"], [[("letter", "a")], [],
                                                                                  [("copy", 0, 0, 1)]], True)):
            self.assertIs(self.check(strings, cut), want)
            self.assertIs(store_bound(texts_of(strings), cut) is not None, want)
        self.assertEqual(store_bound([], []), 0)
        self.assertEqual(store_bound(texts_of([""]), [[]]), 0)

    def test_arguments_stay_as_they_were(self):
        texts, cut = texts_of(["abab", "ba"]), by_lists(shortest_cut(texts_of(["abab", "ba"])))
        before, rules = by_lists(cut), [dict(vars(text)) for text in texts]
        is_cut(texts, cut)
        store_bound(texts, cut)
        shortest_cut(texts)
        self.assertEqual((cut, [vars(text) for text in texts]), (before, rules))


class TestGreatCuts(unittest.TestCase):
    def check(self, texts, cut, want):
        self.assertIs(is_cut(texts, cut), want, cut)
        self.assertIs(is_cut(tuple(texts), by_lists(cut)), want)
        self.assertIs(store_bound(texts, cut) is not None, want)

    def test_example(self):
        text = Text([("letters", "a"), ("power", 0, MOST)])
        cut = ((("letter", "a"), ("copy", 0, 0, MOST - 1)),)
        self.check([text], cut, True)
        self.assertEqual(store_bound([text], cut), 8)
        for many in (MOST - 2, MOST, 0, -1, 2 * MOST):
            self.check([text], ((("letter", "a"), ("copy", 0, 0, many)),), False)

    def test_powers(self):
        rules = [("letters", "abc"), ("power", 0, FAR)]
        texts = [Text(rules), Text([*rules, ("part", 1, 2, 3 * FAR)]), Text.made(retold(rules))]
        first = [("letter", "a"), ("letter", "b"), ("letter", "c"), ("copy", 0, 0, 3 * FAR - 3)]
        cut = [first, [("copy", 0, 2, 3 * FAR - 2)], [("copy", 1, 1, 3 * FAR - 3), ("copy", 2, 0, 2), ("copy", 1, 0, 1)]]
        self.check(texts, cut, True)
        for row, phrase, other in ((0, 3, ("copy", 0, 1, 3 * FAR - 3)), (0, 3, ("copy", 0, 0, 3 * FAR - 4)),
                                   (0, 2, ("letter", "b")), (1, 0, ("copy", 0, 5, 3 * FAR - 2)),
                                   (1, 0, ("copy", 1, 2, 3 * FAR - 2)), (1, 0, ("copy", 0, 3, 3 * FAR - 2)),
                                   (2, 0, ("copy", 0, 1, 3 * FAR - 3)), (2, 1, ("copy", 2, 3 * FAR, 2)),
                                   (2, 2, ("copy", 1, 1, 1)), (2, 2, ("copy", 1, 3 * FAR - 2, 1)), (2, 0, ("copy", 2, 0, 3 * FAR - 3))):
            rows = by_lists(cut)
            rows[row][phrase] = other
            self.check(texts, rows, False)
        for other in (("copy", 0, 0, 3 * FAR - 3), ("copy", 0, 3, 3 * FAR - 3), ("copy", 1, 4, 3 * FAR - 6)):
            rows = by_lists(cut)
            rows[2][0:1] = [other] if other[3] > 3 * FAR - 6 else [other, ("copy", 0, 6, 3)]
            self.check(texts, rows, True)

    def test_texts_by_rules(self):
        """The cut follows the rules; one that copies from one place on, or one letter less, mostly is none."""
        for rules in self.kinds():
            text, row = Text(rules), row_by_rules(rules)
            self.check([text], [row], True)
            for number, phrase in enumerate(row):
                if phrase[0] == "copy":
                    place, start, many = sum([size_of(other) for other in row[:number]]), *phrase[2:]
                    other = [*row[:number], ("copy", 0, start + 1, many), *row[number + 1:]]
                    want = start + 1 < place and common_from(text, start + 1, text, place) >= many
                    self.assertIs(is_cut([text], [other]), want)
                    self.assertIs(is_cut([text], [[*row[:number], ("copy", 0, start, many - 1), *row[number + 1:]]]), False)
                    self.assertIs(is_cut([text], [[*row[:number], *row[number + 1:]]]), False)

    def kinds(self):
        for seed in range(10):
            yield great_rules(rng_of(seed), ("join", "power"))
        yield words_joined(56)
        yield swapped(28)

    def test_parts_of_an_earlier_text(self):
        for seed, rules in enumerate(self.kinds()):
            rng, text, last = rng_of(seed), Text(rules), len(rules) - 1
            low, high = sorted([rng.randint(1, text.length - 1), rng.randint(1, text.length - 1)])
            other = Text.made([*rules, ("part", last, low, high), ("part", last, 0, low), ("join", last + 1, last + 2),
                               ("power", last + 3, 3)])
            head, first = row_by_rules(rules), [("copy", 0, low, high - low), ("copy", 0, 0, low), ("copy", 1, 0, 2 * high)]
            if low < high:
                self.check([text, other], [head, first], True)
                self.check([Text.made(retold(rules)), other], [head, first], True)
                for wrong in (first[1:], [*first, first[0]], [*first[:2], ("copy", 1, 0, 2 * high + 1)],
                              [*first[:2], ("copy", 1, 0, 2 * high - 1)], [*first[:2], ("copy", 0, 0, 2 * text.length)],
                              [("copy", 1, *first[0][2:]), *first[1:]], [("copy", 2, *first[0][2:]), *first[1:]]):
                    self.check([text, other], [head, wrong], False)
                want = high < text.length and common_from(text, low, text, low + 1) >= high - low
                self.check([text, other], [head, [("copy", 0, low + 1, high - low), *first[1:]]], want)


def size_of(phrase):
    return 1 if phrase[0] == "letter" else phrase[3]


def row_by_rules(rules):
    """A row that spells the text of rules, none of which makes a part or turns round: what is there already is copied."""
    sizes, places, row = [], {}, []
    for rule in rules:
        sizes.append(size_made(rule, sizes))

    def spell(number, place):
        rule = rules[number]
        if number in places:
            row.append(("copy", 0, places[number], sizes[number]))
        elif rule[0] == "letters":
            row.extend([("letter", letter) for letter in rule[1]])
        else:
            spell(rule[1], place)
            if rule[0] == "join":
                spell(rule[2], place + sizes[rule[1]])
            elif rule[2] > 1:
                row.append(("copy", 0, place, sizes[rule[1]] * (rule[2] - 1)))
        places.setdefault(number, place)

    spell(len(rules) - 1, 0)
    return row


class TestShortestCut(unittest.TestCase):
    def check(self, strings, kinds=2):
        want = slow.shortest_cut(strings)
        for way in (letters, by_rules)[:kinds]:
            texts = [way(string) for string in strings]
            self.assertEqual(shortest_cut(tuple(texts)), want)
            found = shortest_cut(texts)
            self.assertEqual(found, want, strings)
            self.assertIs(is_cut(texts, found), True)
        self.assertTrue(all(isinstance(row, tuple) and all(isinstance(phrase, tuple) for phrase in row) for row in found))
        for number, row in enumerate(found):
            self.assertEqual(len(row), slow.fewest_phrases(strings, number), strings)
        return found

    def test_examples(self):
        self.assertEqual(shortest_cut([letters("abab"), letters("babx")]),
                         ((("letter", "a"), ("letter", "b"), ("copy", 0, 0, 2)), (("copy", 0, 1, 3), ("letter", "x"))))

    def test_words(self):
        for strings in WORDS:
            self.check(strings)

    def test_all_short_texts(self):
        for string in short_strings("ab", 7):
            self.check([string], 1)
        for strings in itertools.product(short_strings("ab", 3), repeat=2):
            self.check(list(strings), 1)

    def test_the_first_of_those_as_long(self):
        self.assertEqual(self.check(["abxab", "xab", "ab"])[2], (("copy", 0, 0, 2),))
        self.assertEqual(self.check(["xab", "abxab", "abc"])[2], (("copy", 0, 1, 2), ("letter", "c")))
        self.assertEqual(self.check(["ab", "abcab", "abcab"])[2], (("copy", 1, 0, 5),))
        self.assertEqual(self.check(["xyab", "abyab"])[1], (("copy", 0, 2, 2), ("copy", 0, 1, 3)))
        self.assertEqual(self.check(["ab", "cab", "xcabcab"])[2], (("letter", "x"), ("copy", 1, 0, 3), ("copy", 1, 0, 3)))

    def test_not_across_the_end_of_a_text(self):
        self.assertEqual(self.check(["ab", "cd", "abcd"])[2], (("copy", 0, 0, 2), ("copy", 1, 0, 2)))
        self.assertEqual(self.check(["a", "b", "ab"])[2], (("letter", "a"), ("letter", "b")))

    def test_random_texts(self):
        for seed in range(150):
            self.check(random_strings(seed), 1 + (seed % 5 == 0))

    def test_all_letters(self):
        self.check([LETTERS, LETTERS[::-1], LETTERS[5:]], 1)

    def test_by_other_rules(self):
        for string in ("abababab", "aabaabaab", "abcabcabcabcxabc"):
            found = [shortest_cut([text, turned(text), text]) for text in ways(string)]
            self.assertEqual(found, [slow.shortest_cut([string, string[::-1], string])] * 3)
            great = Text([("letters", string), ("power", 0, 10 ** 10), ("part", 1, 0, len(string))])
            self.assertEqual(shortest_cut([great]), slow.shortest_cut([string]))

    def test_too_many_letters(self):
        many = Text([("letters", "ab"), ("power", 0, 2048)])
        want = (("letter", "a"), ("letter", "b"), ("copy", 0, 0, 4094))
        self.assertEqual(shortest_cut([many]), (want,))
        self.assertEqual(shortest_cut([many, letters("")]), (want, ()))
        half = Text([("letters", "ab"), ("power", 0, 1024)])
        self.assertEqual(shortest_cut((half, half))[1], (("copy", 0, 0, 2048),))
        more = Text([("letters", "a"), ("power", 0, 4097)])
        great = Text([("letters", "a"), ("power", 0, MOST)])
        for texts in ([more], [many, letters("a")], (letters("a"), many), [half, half, letters("b")], [great], [great, great],
                      [letters("a")] * 4097):
            with self.assertRaises(TooManyLetters) as caught:
                shortest_cut(texts)
            self.assertIsInstance(caught.exception, HeldError)
        self.assertEqual(shortest_cut([letters("a")] * 4096), ((("letter", "a"),),) * 4096)


class TestBound(unittest.TestCase):
    def check(self, texts, cut):
        rounds, symbols, _ = store_of(texts)
        words = [phrase[0] for row in cut for phrase in row]
        want = 2 * words.count("letter") + 6 * words.count("copy") * rounds
        for told in (cut, by_lists(cut)):
            self.assertEqual(store_bound(texts, told), want)
        self.assertLessEqual(len(symbols), want)

    def test_small_texts(self):
        for seed in range(120):
            strings = random_strings(seed)
            texts = texts_of(strings)
            self.check(texts, shortest_cut(texts))
            self.check(texts, random_cut(rng_of(seed), strings))
            self.check(texts, [[("letter", letter) for letter in string] for string in strings])

    def test_no_cut(self):
        texts = texts_of(["abab", "ab"])
        right = by_lists(shortest_cut(texts))
        self.assertIsNotNone(store_bound(texts, right))
        for wrong in (right[:1], right + [[]], [right[0], []], [right[0], right[1] * 2], [right[0], [("copy", 1, 0, 2)]], []):
            self.assertIsNone(store_bound(texts, wrong))

    def test_great_powers(self):
        for word in ("ab", "aab", "abcab"):
            text = Text([("letters", word), ("power", 0, FAR)])
            row = [("letter", letter) for letter in word] + [("copy", 0, 0, (FAR - 1) * len(word))]
            self.check([text], [row])
            self.check([text, turned(turned(text))], [row, [("copy", 0, 0, FAR * len(word))]])
