"""Symbols that are told to stand wherever some letters stand do so."""

import unittest

from shortheld.anchors import Core, anchor_of
from shortheld.text import Text
from shortheld.trees import Trees
from tests import slow
from tests.helpers import rng_of

# Texts in which letters pair otherwise, near the ends of the pattern, than they do in the pattern alone.
SPECIAL = (("eheeheehcfgg", "fffbddbfdbgbbhgggaahhhddfffheeheeheehcfggghdeabch"),
           ("bcbbcbbcabccaaab", "aaaaabbbcccbbbbbcccaaacccccbcccaaaababbbbbaaabbcbbcbbcabccaaabbbba"),
           ("eefeeefcgbachdef", "hhhhagdddeacccdeeefeeefcgbachdeffheehag"))


class TestAnchors(unittest.TestCase):
    def nodes(self, trees, root):
        """All symbols of a small text, with their places."""
        found = set()
        waiting = [(root, 0)]
        while waiting:
            symbol, place = waiting.pop()
            found.add((symbol, place))
            for part, times in trees.parts[symbol]:
                for _ in range(times):
                    waiting.append((part, place))
                    place += trees.lengths[part]
        return found

    def check(self, pattern, string):
        """What is left out at the ends of the pattern is all of it, and stands in the text wherever the pattern does."""
        trees = Trees([Text.of_letters(pattern), Text.of_letters(string)])
        left_out = sorted(Core(trees, trees.roots[0], 0, len(pattern)).left_out, key=lambda row: row[2])
        end = 0
        for symbol, times, place in left_out:
            self.assertEqual(place, end)
            end += times * trees.lengths[symbol]
        self.assertEqual(end, len(pattern))
        nodes = self.nodes(trees, trees.roots[1])
        for first in slow.occurrences(pattern, string):
            for symbol, times, place in left_out:
                for number in range(times):
                    self.assertIn((symbol, first + place + number * trees.lengths[symbol]), nodes, (pattern, string))
        self.check_anchor(trees, left_out)

    def check_anchor(self, trees, left_out):
        base, times, place = anchor_of(trees, trees.roots[0], 0, trees.lengths[trees.roots[0]])
        self.assertIn((base, times, place), left_out)
        self.assertEqual(times * trees.lengths[base], max(many * trees.lengths[symbol] for symbol, many, _ in left_out))

    def test_special_texts(self):
        for pattern, string in SPECIAL:
            self.check(pattern, string)
            self.check(pattern[::-1], string[::-1])

    def test_random_texts(self):
        for seed in range(3000):
            rng = rng_of(seed)
            alphabet = ("ab", "abc", "abmnw", "abcdefgh")[seed % 4]
            string = "".join([rng.choice(alphabet) * rng.choice((1, 1, 2, 3)) for _ in range(rng.randint(2, 30))])
            word = rng.choice(alphabet) * rng.randint(2, 3) + rng.choice(alphabet)
            middle = word * rng.randint(2, 3) + "".join([rng.choice(alphabet) for _ in range(rng.randint(1, 9))])
            cut = rng.randint(0, len(string))
            self.check(middle[1:], string[:cut] + middle + string[cut:])
            start = rng.randrange(len(string))
            self.check(string[start:rng.randint(start + 1, len(string))], string)

    def test_powers(self):
        for word in ("a", "ab", "aab", "abc", "abaab"):
            for size in range(1, 4 * len(word) + 2):
                self.check((word * 9)[1:1 + size], word * 9)
                self.check((word * 9)[1:1 + size], "c" + word * 9 + "a" + word * 4)


class TestLines(unittest.TestCase):
    def test_parts_of_a_symbol(self):
        """The common beginning and ending of two places of one text, also where these places lie in one symbol."""
        string = "abaabaaabababaabcc" * 3
        trees = Trees([Text.of_letters(string), Text.of_letters("")])
        root = trees.roots[0]
        self.assertIsNone(trees.roots[1])
        for start in range(len(string) + 1):
            for at in range(len(string) + 1):
                self.assertEqual(trees.common_from(root, start, root, at), slow.common_from(string, start, string, at))
                self.assertEqual(trees.common_to(root, start, root, at), slow.common_to(string, start, string, at))
