"""B1 to B7: stores of great texts, of which nobody can go through the letters one by one."""

import unittest

from shortheld.store import Store, store_of, symbol_lengths
from shortheld.text import Text
from tests.great import MANY, great_rules, retold
from tests.helpers import SlowStore, letter_at, random_rules, rng_of


class GreatTest(unittest.TestCase):
    def check_letters(self, text, store, root):
        """The root stands for the text, as far as some places tell."""
        self.assertEqual(store.lengths[root], text.length)
        rng = rng_of(text.length)
        places = [0, text.length - 1] + [rng.randrange(text.length) for _ in range(40)]
        for place in places:
            self.assertEqual(letter_at(store, root, place), text.letter(place))

    def check_store(self, texts):
        store = Store(texts)
        self.assertEqual(store_of(texts), (store.rounds, store.symbols, store.roots))
        self.assertEqual(symbol_lengths(store.symbols), store.lengths)
        self.assertEqual(len(set(store.symbols)), len(store.symbols))
        self.assertEqual(len(store.ends), 1 + 2 * store.rounds)
        self.assertEqual(store.ends[-1], len(store.symbols))
        for number, (word, *used) in enumerate(store.symbols):
            self.assertEqual(word, self.word_of(store, number))
            if word != "letter":
                self.assertLess(max(used if word == "pair" else used[:1]), number)
        seams = sum(text.length - 1 for text in texts if text.length)
        for _ in range(store.rounds - 1):
            seams = seams * 3 // 4
        self.assertTrue(seams >= 1 or store.rounds == 0)
        for text, root in zip(texts, store.roots):
            if text.length:
                self.check_letters(text, store, root)
            else:
                self.assertIsNone(root)
        return store

    def word_of(self, store, number):
        """The word of a symbol, as the ends tell it."""
        behind = sum(1 for end in store.ends if end <= number)
        return "letter" if behind == 0 else ("run", "pair")[(behind - 1) % 2]


class TestGreatTexts(GreatTest):
    def test_one_letter(self):
        text = Text([("letters", "a"), ("power", 0, 10 ** 12)])
        self.assertEqual(store_of([text]), (1, (("letter", "a"), ("run", 0, 10 ** 12)), (1,)))
        nested = Text([("letters", "a")] + [("power", number, 10) for number in range(12)])
        self.assertEqual(store_of([nested]), store_of([text]))
        store = Store([text, nested, Text([("letters", "a"), ("power", 0, 10 ** 12 - 1)])])
        self.assertEqual(store.symbols, (("letter", "a"), ("run", 0, 10 ** 12 - 1), ("run", 0, 10 ** 12)))
        self.assertEqual((store.roots, store.ends, store.lengths), ((2, 2, 1), (1, 3, 3), (1, 10 ** 12 - 1, 10 ** 12)))

    def test_parts_of_a_power(self):
        power = [("letters", "ab"), ("power", 0, 5 * 10 ** 11)]
        inner = Text(power + [("part", 1, 1, 10 ** 12 - 1)])
        turned = Text(power + [("back", 1), ("part", 2, 0, 10 ** 12 - 2)])
        want = Text([("letters", "ba"), ("power", 0, 5 * 10 ** 11 - 1)])
        symbols = (("letter", "a"), ("letter", "b"), ("pair", 1, 0), ("run", 2, 5 * 10 ** 11 - 1))
        for text in (inner, turned, want):
            self.assertEqual(store_of([text]), (2, symbols, (3,)))

    def test_letters_word_letters(self):
        """But for great times, the store is the one of the same text with its word fewer times."""
        for seed in range(60):
            rng = rng_of(seed)
            head, word, tail = ["".join([rng.choice("abc") for _ in range(rng.randint(1, 8))]) for _ in range(3)]
            rules = [("letters", word), ("power", 0, MANY), ("letters", head), ("letters", tail), ("join", 2, 1),
                     ("join", 4, 3)]
            store = self.check_store([Text(rules)])
            slow = SlowStore([head + word * 60 + tail])
            self.assertEqual([self.with_fewer(symbol) for symbol in store.symbols], slow.symbols)
            self.assertEqual((store.rounds, store.roots, list(store.ends)), (slow.rounds, slow.roots, slow.ends))

    def with_fewer(self, symbol):
        """The symbol as it would be if the word were there 60 times."""
        if symbol[0] != "run" or symbol[2] < 1000:
            return symbol
        in_a_word = (symbol[2] + 1000) // MANY
        return ("run", symbol[1], symbol[2] - in_a_word * (MANY - 60))

    def test_powers_of_powers(self):
        rules = [("letters", "ab"), ("power", 0, 1000), ("letters", "c"), ("join", 1, 2), ("power", 3, 1000),
                 ("letters", "ba"), ("join", 4, 5), ("power", 6, 1000), ("back", 7), ("join", 7, 8)]
        self.check_same_by_other_rules(rules)

    def test_doubled_words(self):
        """Words that are made of the last two ones, and words that are turned and doubled: all rounds are needed."""
        last_two = [("letters", "b"), ("letters", "a")] + [("join", number + 1, number) for number in range(56)]
        text = Text(last_two)
        self.assertEqual(text.length, 591286729879)
        self.check_same_by_other_rules(last_two)
        turned = [("letters", "aab")]
        while len(turned) < 58:
            last = len(turned) - 1
            turned += [("back", last), ("join", last, last + 1), ("join", last + 2, 0)]
        self.check_same_by_other_rules(turned)

    def check_same_by_other_rules(self, rules):
        text, other = Text(rules), Text.made(retold(rules))
        self.assertEqual(text.length, other.length)
        store = self.check_store([text])
        self.assertEqual(store_of([other]), (store.rounds, store.symbols, store.roots))
        both = self.check_store([text, other])
        self.assertEqual(both.roots[0], both.roots[1])

    def test_random_great_texts(self):
        for seed in range(40):
            rules = great_rules(rng_of(seed))
            self.check_same_by_other_rules(rules)

    def test_random_rules_with_great_powers(self):
        for seed in range(60):
            rng = rng_of(seed)
            self.check_same_by_other_rules(random_rules(rng, 60, 10 ** 12, "abc", (0, 1, 2, 3, 10, MANY, 10 ** 12)))

    def test_sixteen_great_texts(self):
        texts = [Text(great_rules(rng_of(seed))) for seed in range(15)] + [Text([("letters", "")])]
        store = self.check_store(texts)
        back = self.check_store(tuple(texts[::-1]))
        self.assertEqual((store.rounds, store.symbols, store.ends), (back.rounds, back.symbols, back.ends))
        self.assertEqual(store.roots, back.roots[::-1])

    def test_near_each_other(self):
        """Two great texts that differ at one place alone have roots of their own."""
        base = [("letters", "abc"), ("power", 0, 10 ** 11), ("letters", "b")]
        for place in (0, 12345678901, 3 * 10 ** 11 - 1):
            rules = base + [("part", 1, 0, place), ("part", 1, place + 1, 3 * 10 ** 11), ("join", 3, 2), ("join", 5, 4)]
            store = self.check_store([Text(base[:2]), Text(rules)])
            self.assertEqual(store.lengths[store.roots[0]], store.lengths[store.roots[1]])
            self.assertEqual(store.roots[0] == store.roots[1], place % 3 == 1)

    def test_many_rules(self):
        rules = [("letters", "ab"), ("power", 0, 10 ** 11), ("letters", "x")]
        for number in range(200):
            last = len(rules) - 1 if number else 1
            size = 2 * 10 ** 11 + number
            cut = (number * 7919 * 10 ** 7 + 13) % size
            rules += [("part", last, 0, cut), ("part", last, cut, size)]
            rules += [("join", len(rules) - 2, 2), ("join", len(rules), len(rules) - 1)]
        text = Text.made(rules)
        self.assertEqual(text.length, 2 * 10 ** 11 + 200)
        self.check_store([text])
