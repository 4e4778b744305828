"""B1 to B7: stores of small texts, against rounds that are made letter by letter."""

import unittest

from shortheld.store import Store, store_of, symbol_lengths
from shortheld.text import LETTERS, Text
from tests.helpers import SlowStore, all_made, random_rules, rng_of, spelled


def told(*strings):
    return [Text.of_letters(string) for string in strings]


class StoreTest(unittest.TestCase):
    def check(self, texts, strings):
        """The store of the texts is the one of the strings, which they have as letters."""
        slow = SlowStore(strings)
        store = Store(texts)
        self.assertEqual(store.symbols, tuple(slow.symbols), strings)
        self.assertEqual((store.rounds, store.roots), (slow.rounds, slow.roots), strings)
        self.assertEqual(store.ends, tuple(slow.ends), strings)
        self.assertEqual(len(store.ends), 1 + 2 * store.rounds)
        self.assertEqual(store_of(texts), (store.rounds, store.symbols, store.roots))
        strings_of = spelled(store.symbols)
        self.assertEqual(store.lengths, tuple(len(string) for string in strings_of))
        self.assertEqual(symbol_lengths(store.symbols), store.lengths)
        self.assertEqual([strings_of[root] if root is not None else "" for root in store.roots], list(strings))
        self.assertEqual(len(set(strings_of)), len(strings_of))
        self.check_needed(store)
        for before, behind in zip(slow.seams_left, slow.seams_left[1:]):
            self.assertLessEqual(4 * behind, 3 * before)

    def check_needed(self, store):
        needed = {root for root in store.roots if root is not None}
        for number in range(len(store.symbols) - 1, -1, -1):
            self.assertIn(number, needed)
            word, *used = store.symbols[number]
            if word != "letter":
                needed.update(used if word == "pair" else used[:1])

    def check_strings(self, *strings):
        self.check(told(*strings), strings)


class TestExamples(StoreTest):
    def test_abab(self):
        want = (2, (("letter", "a"), ("letter", "b"), ("pair", 0, 1), ("run", 2, 2)), (3,))
        self.assertEqual(store_of([Text([("letters", "abab")])]), want)

    def test_far(self):
        far = Text([("letters", "ab"), ("power", 0, 400000000000), ("letters", "c"), ("join", 1, 2)])
        count, symbols, roots = store_of([far])
        self.assertEqual((count, roots), (2, (5,)))
        self.assertEqual(symbols[:3], (("letter", "a"), ("letter", "b"), ("letter", "c")))
        self.assertEqual(symbols[3:], (("pair", 0, 1), ("run", 3, 400000000000), ("pair", 4, 2)))


class TestFewTexts(StoreTest):
    def test_no_texts(self):
        for texts in ([], ()):
            self.assertEqual(store_of(texts), (0, (), ()))
            store = Store(texts)
            self.assertEqual((store.rounds, store.symbols, store.roots), (0, (), ()))
            self.assertEqual((store.lengths, store.ends), ((), (0,)))
        self.assertEqual(symbol_lengths([]), ())
        self.assertEqual(symbol_lengths(()), ())

    def test_empty_texts(self):
        self.assertEqual(store_of(told("")), (0, (), (None,)))
        self.assertEqual(store_of(told("", "")), (0, (), (None, None)))
        emptied = Text([("letters", "abc"), ("power", 0, 10 ** 9), ("part", 1, 7, 7), ("power", 1, 0), ("join", 2, 3)])
        self.assertEqual(store_of([emptied]), (0, (), (None,)))
        self.check_strings("", "ab", "")

    def test_one_letter(self):
        self.assertEqual(store_of(told("x")), (0, (("letter", "x"),), (0,)))
        self.assertEqual(store_of(told("x", "x")), (0, (("letter", "x"),), (0, 0)))
        self.assertEqual(store_of(told("x", "", "a")), (0, (("letter", "a"), ("letter", "x")), (1, None, 0)))
        one = Text([("letters", "abc"), ("power", 0, 10 ** 9), ("part", 1, 7, 8), ("back", 2)])
        self.assertEqual(store_of([one]), (0, (("letter", "b"),), (0,)))
        self.check_strings("x", "xx", "y")

    def test_two_letters(self):
        self.assertEqual(store_of(told("aa")), (1, (("letter", "a"), ("run", 0, 2)), (1,)))
        self.assertEqual(store_of(told("ba")), (1, (("letter", "a"), ("letter", "b"), ("pair", 1, 0)), (2,)))
        self.assertEqual(Store(told("aa")).ends, (1, 2, 2))
        self.assertEqual(Store(told("ba")).ends, (2, 2, 3))

    def test_letters_of_rules_alone_are_no_symbols(self):
        rules = [("letters", "abxyz"), ("part", 0, 0, 2), ("letters", "q"), ("power", 2, 0), ("join", 1, 3)]
        want = (1, (("letter", "a"), ("letter", "b"), ("pair", 0, 1)), (2,))
        self.assertEqual(store_of([Text(rules)]), want)

    def test_the_same_text_twice(self):
        self.check_strings("abcab", "abcab")
        self.check_strings("abcab", "b", "abcab", "", "abcab")
        text = Text.of_letters("abcab")
        self.check([text, text], ["abcab", "abcab"])

    def test_how_often_a_text_is_there_counts(self):
        strings = ["abcacb", "cabbca", "bc"]
        self.check_strings(*strings)
        self.check_strings(*(strings * 5))
        self.check_strings(*(strings[:1] * 7 + strings))

    def test_rows_stay_apart(self):
        self.check_strings("ab", "ba")
        self.check_strings("a", "b", "a", "b")
        self.check_strings("aa", "aa")

    def test_lists_and_tuples(self):
        texts = told("abcabd", "bcbc")
        self.assertEqual(store_of(tuple(texts)), store_of(texts))
        self.assertEqual(Store(tuple(texts)).ends, Store(texts).ends)
        self.assertEqual(len(texts), 2)
        self.assertEqual(symbol_lengths(list(Store(texts).symbols)), Store(texts).lengths)

    def test_all_letters(self):
        self.check_strings(LETTERS, LETTERS[::-1], LETTERS * 2)

    def test_sixteen_texts_and_somewhat_more(self):
        self.check_strings(*["abc" * number + "d" for number in range(16)])
        self.check_strings(*["abc" * number + "d" for number in range(20)])


class TestKinds(StoreTest):
    def test_tuples(self):
        store = Store(told("abab", ""))
        for told_as in (store.symbols, store.roots, store.lengths, store.ends, store_of(told("abab"))):
            self.assertIsInstance(told_as, tuple)
        self.assertTrue(all(isinstance(symbol, tuple) for symbol in store.symbols))


class TestSmallTexts(StoreTest):
    def test_all_short_strings(self):
        strings = [""]
        for string in strings:
            if len(string) < 6:
                strings += [string + letter for letter in "abc"]
        for string in strings:
            self.check_strings(string)

    def test_random_strings(self):
        rng = rng_of(1)
        for _ in range(60):
            alphabet = rng.choice(("ab", "abc", "abcdefgh", LETTERS))
            self.check_strings(*["".join([rng.choice(alphabet) for _ in range(rng.randint(0, 90))])
                                 for _ in range(rng.randint(1, 5))])

    def check_random(self, seed, largest, alphabet, many):
        rng = rng_of(seed)
        rules = [random_rules(rng, rng.randint(1, 30), largest, alphabet) for _ in range(rng.randint(1, many))]
        strings = [all_made(told_rules)[-1] for told_rules in rules]
        texts = [Text(told_rules) for told_rules in rules]
        if rng.random() < 0.3:
            texts.append(texts[0])
            strings.append(strings[0])
        self.check(tuple(texts) if rng.random() < 0.5 else texts, strings)

    def test_tiny_texts_by_rules(self):
        for seed in range(1500):
            self.check_random(seed, 24, "ab", 4)

    def test_small_texts_by_rules(self):
        for seed in range(500):
            self.check_random(seed, 300, ("a", "ab", "abc", "abcdefgh")[seed % 4], 4)

    def test_longer_texts_by_rules(self):
        for seed in range(50):
            self.check_random(seed, 3000, ("ab", "abc", "abcdefgh")[seed % 3], 2)


class TestOrder(StoreTest):
    def test_in_another_order(self):
        for seed in range(150):
            rng = rng_of(seed)
            texts = [Text(random_rules(rng, rng.randint(1, 30), 300, "abc")) for _ in range(rng.randint(2, 5))]
            order = list(range(len(texts)))
            rng.shuffle(order)
            first, second = Store(texts), Store([texts[number] for number in order])
            self.assertEqual((first.rounds, first.symbols, first.ends), (second.rounds, second.symbols, second.ends))
            self.assertEqual([first.roots[number] for number in order], list(second.roots))

    def test_by_other_rules(self):
        for seed in range(150):
            rng = rng_of(seed)
            rules = random_rules(rng, rng.randint(1, 30), 300, "abc")
            by_rules, by_letters = Text(rules), Text.of_letters(all_made(rules)[-1])
            other = Text(random_rules(rng, 20, 100, "abc"))
            self.assertEqual(store_of([by_rules]), store_of([by_letters]))
            self.assertEqual(store_of([other, by_rules]), store_of([other, by_letters]))
            _, _, roots = store_of([by_rules, other, by_letters])
            self.assertEqual(roots[0], roots[2])
