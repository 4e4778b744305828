"""A1 and A2: letters, the five kinds of rules, and wrong rules."""

import unittest

from shortheld.errors import BadRules
from shortheld.text import LETTERS, Text

MOST = 10 ** 12


def spelled(rules):
    text = Text(rules)
    return text.letters(0, text.length)


class TestLetters(unittest.TestCase):
    def test_all_letters_ascending(self):
        self.assertIsInstance(LETTERS, str)
        codes = [ord(letter) for letter in LETTERS]
        self.assertEqual(codes, [code for code in range(32, 127) if code != 37])

    def test_each_letter_stands_in_a_text(self):
        for letter in LETTERS:
            self.assertEqual(spelled([("letters", letter)]), letter)

    def test_other_characters_do_not(self):
        for character in ("%", "\n", "\t", "\r", chr(0), chr(31), chr(127), chr(160), "\u00e9", "\u20ac"):
            for letters in (character, "ab" + character, character + "ab"):
                with self.assertRaises(BadRules) as caught:
                    Text((("letters", letters),))
                self.assertEqual((caught.exception.number, caught.exception.reason), (0, "letters"))


class TestKindsOfRules(unittest.TestCase):
    def test_letters(self):
        self.assertEqual(spelled((("letters", "hello world"),)), "hello world")
        self.assertEqual(spelled((("letters", ""),)), "")
        self.assertEqual(spelled((("letters", "x" * 64),)), "x" * 64)

    def test_join(self):
        self.assertEqual(spelled((("letters", "ab"), ("letters", "c"), ("join", 0, 1))), "abc")
        self.assertEqual(spelled((("letters", "ab"), ("letters", "c"), ("join", 1, 0))), "cab")
        self.assertEqual(spelled((("letters", "ab"), ("join", 0, 0))), "abab")

    def test_power(self):
        for times in (0, 1, 2, 5):
            self.assertEqual(spelled((("letters", "ab"), ("power", 0, times))), "ab" * times)

    def test_part(self):
        for start in range(6):
            for stop in range(start, 6):
                rules = (("letters", "abcde"), ("part", 0, start, stop))
                self.assertEqual(spelled(rules), "abcde"[start:stop])

    def test_back(self):
        self.assertEqual(spelled((("letters", "abc"), ("back", 0))), "cba")
        self.assertEqual(spelled((("letters", "abc"), ("back", 0), ("back", 1))), "abc")
        self.assertEqual(spelled((("letters", ""), ("back", 0))), "")

    def test_the_last_rule_is_the_text(self):
        self.assertEqual(spelled((("letters", "ab"), ("power", 0, 3), ("letters", "c"))), "c")

    def test_lists(self):
        rules = [["letters", "ab"], ["letters", "c"], ["join", 0, 1], ["power", 2, 3], ["part", 3, 1, 8], ["back", 4]]
        tuples = tuple(tuple(rule) for rule in rules)
        for told in (rules, tuple(rules), list(tuples), tuples):
            text = Text(told)
            self.assertEqual(text.letters(0, text.length), "bacbacb")
            self.assertEqual(text.rules, tuples)
            self.assertEqual(text.lengths, (2, 1, 3, 9, 7, 7))
            self.assertEqual(text.length, 7)

    def test_kinds_of_the_attributes(self):
        text = Text([["letters", "ab"], ["back", 0]])
        self.assertIsInstance(text.rules, tuple)
        self.assertTrue(all(isinstance(rule, tuple) for rule in text.rules))
        self.assertIsInstance(text.lengths, tuple)

    def test_later_changes_change_nothing(self):
        rules = [["letters", "ab"], ["power", 0, 3]]
        text = Text(rules)
        rules[0][1] = "xyz"
        rules[1].append(5)
        rules.append(["back", 1])
        rules[0] = ("letters", "q")
        self.assertEqual(text.letters(0, 6), "ababab")
        self.assertEqual(text.rules, (("letters", "ab"), ("power", 0, 3)))
        self.assertEqual((text.lengths, text.length), ((2, 6), 6))

    def test_arguments_are_not_changed(self):
        rules = [["letters", "ab"], ["power", 0, 3]]
        Text(rules)
        self.assertEqual(rules, [["letters", "ab"], ["power", 0, 3]])


class TestRightAtTheEdges(unittest.TestCase):
    def test_example(self):
        text = Text((("letters", "ab"), ("power", 0, 10 ** 11), ("letters", "c"), ("join", 1, 2)))
        self.assertEqual(text.length, 200000000001)
        self.assertEqual(text.letter(199999999999), "b")
        self.assertEqual(text.letters(199999999997, 200000000001), "babc")

    def test_powers(self):
        self.assertEqual(Text((("letters", "a"), ("power", 0, MOST))).length, MOST)
        self.assertEqual(Text((("letters", ""), ("power", 0, MOST))).length, 0)
        self.assertEqual(Text((("letters", "ab"), ("power", 0, 0), ("power", 1, MOST))).lengths, (2, 0, 0))
        self.assertEqual(Text((("letters", "ab"), ("power", 0, MOST // 2))).length, MOST)

    def test_exactly_the_most_letters(self):
        rules = (("letters", "a"), ("power", 0, MOST - 1), ("join", 0, 1), ("back", 2), ("part", 3, 0, MOST))
        self.assertEqual(Text(rules).lengths, (1, MOST - 1, MOST, MOST, MOST))

    def test_parts(self):
        rules = (("letters", "abc"), ("part", 0, 0, 0), ("part", 0, 3, 3), ("part", 0, 0, 3), ("part", 1, 0, 0))
        self.assertEqual(Text(rules).lengths, (3, 0, 0, 3, 0))

    def test_one_rule_and_sixty(self):
        self.assertEqual(Text((("letters", "a"),)).length, 1)
        rules = [("letters", "a")] + [("join", 0, number) for number in range(59)]
        text = Text(rules)
        self.assertEqual((len(text.rules), text.length), (60, 60))


class TestWrongRules(unittest.TestCase):
    right = [("letters", "abc"), ("power", 0, 10 ** 11)]

    def check(self, rules, number, reason):
        for told in (rules, tuple(rules), [list(rule) for rule in rules]):
            with self.assertRaises(BadRules) as caught:
                Text(told)
            self.assertEqual((caught.exception.number, caught.exception.reason), (number, reason), rules)

    def check_rule(self, rule, reason):
        """The rule is wrong in this way, wherever it stands, also ahead of other wrong ones."""
        self.check(self.right + [rule], 2, reason)
        self.check(self.right + [rule, ("back", 0)], 2, reason)
        for other in ((), ("letters",), ("letters", "%"), ("back", 7), ("power", 0, -1), ("part", 0, 0, 4)):
            self.check(self.right + [rule, other], 2, reason)

    def test_count(self):
        self.check([], None, "count")
        self.check([("letters", "a")] * 61, None, "count")
        self.check([("letters", "a")] * 60 + [("no",)], None, "count")
        self.check([()] * 61, None, "count")

    def test_word(self):
        for rule in ((), ("",), ("letter", "a"), ("Letters", "a"), ("run", 0, 2), ("pair", 0, 1), ("copy", 0, 0, 1)):
            self.check_rule(rule, "word")
        self.check_rule((0, "letters"), "word")
        self.check_rule((None,), "word")

    def test_length(self):
        for rule in (("letters",), ("letters", "a", "b"), ("join", 0), ("join", 0, 1, 1), ("join",), ("power", 0),
                     ("power", 0, 1, 2), ("part", 0, 0), ("part", 0, 0, 1, 2), ("back",), ("back", 0, 1)):
            self.check_rule(rule, "length")

    def test_letters(self):
        for letters in ("%", "\n", "a" * 65, "a" * 64 + "%", "ab\n", "\u00fc"):
            self.check_rule(("letters", letters), "letters")

    def test_rule(self):
        for number in (2, 3, -1, 10 ** 12):
            self.check_rule(("join", number, 0), "rule")
            self.check_rule(("join", 0, number), "rule")
            self.check_rule(("power", number, 2), "rule")
            self.check_rule(("part", number, 0, 1), "rule")
            self.check_rule(("back", number), "rule")
        self.check([("back", 0)], 0, "rule")
        self.check([("join", 0, 0)], 0, "rule")

    def test_power(self):
        for times in (-1, 10 ** 12 + 1, -10 ** 12):
            self.check_rule(("power", 0, times), "power")

    def test_part(self):
        for start, stop in ((-1, 1), (0, 4), (4, 4), (2, 1), (3, 2), (-1, -1), (4, 3)):
            self.check_rule(("part", 0, start, stop), "part")

    def test_large(self):
        self.check([("letters", "ab"), ("power", 0, 10 ** 12)], 1, "large")
        self.check([("letters", "a"), ("power", 0, 10 ** 12), ("join", 0, 1)], 2, "large")
        self.check([("letters", "a"), ("power", 0, 10 ** 12), ("join", 1, 1)], 2, "large")
        self.check([("letters", "a"), ("power", 0, 10 ** 6), ("join", 1, 0), ("power", 2, 10 ** 6)], 3, "large")
        self.check_rule(("power", 0, 333333333334), "large")
        self.check_rule(("power", 1, 4), "large")

    def test_values_of_other_kinds(self):
        """The document promises nothing here; they are wrong in the way in which a number or a string would be."""
        self.check_rule(("letters", 5), "letters")
        for number in (None, "0", True):
            self.check_rule(("back", number), "rule")
            self.check_rule(("join", 0, number), "rule")
            self.check_rule(("power", 0, number), "power")
            self.check_rule(("part", 0, 0, number), "part")

    def test_two_ways_at_once(self):
        self.check_rule(("lettres", "%", 5), "word")
        self.check_rule(("no", -1), "word")
        self.check_rule(("letters", "%", "a"), "length")
        self.check_rule(("letters", "a" * 65, 1), "length")
        self.check_rule(("join", 5, 0, 0), "length")
        self.check_rule(("power", 5), "length")
        self.check_rule(("power", 0, -1, 0), "length")
        self.check_rule(("part", 0, 5), "length")
        self.check_rule(("back", -1, 0), "length")
        self.check_rule(("power", 2, -1), "rule")
        self.check_rule(("power", -1, 10 ** 12 + 1), "rule")
        self.check_rule(("part", 2, 5, 1), "rule")
        self.check_rule(("join", 1, 9), "rule")
        self.check_rule(("power", 0, 10 ** 12 + 1), "power")
        self.check_rule(("part", 1, 0, 10 ** 13), "part")

    def test_the_first_of_two_wrong_rules(self):
        self.check([("letters", "%"), ("no",)], 0, "letters")
        self.check([("letters", "a"), ("power", 0, -1), ("no",)], 1, "power")
        self.check([("letters", "ab"), ("power", 0, 10 ** 12), ("back", 5), ("no",)], 1, "large")
        self.check([("letters", "ab"), ("part", 0, 0, 3), ("power", 1, 10 ** 12)], 1, "part")

    def test_a_rule_behind_a_wrong_one_does_not_count(self):
        self.check([("back", 1), ("letters", "a")], 0, "rule")
