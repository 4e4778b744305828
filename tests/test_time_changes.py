"""Each call about cuts, changes and questions ends within a few seconds, also for texts that many changes made."""

import time
import unittest

from shortheld.bench import Bench
from shortheld.changes import (apply_phrases, insert_at, move_part, part_of, remove_part, repeat_part, replace_part,
                               turn_part)
from shortheld.common import compare, turned
from shortheld.cuts import is_cut, shortest_cut, store_bound
from shortheld.ordering import ordering
from shortheld.overlaps import overlaps_of
from shortheld.palindromes import palindrome_at
from shortheld.periods import periods_of, rotation_of
from shortheld.questions import answer, key_of
from shortheld.store import store_of
from shortheld.stretches import stretch_around
from shortheld.text import LETTERS, Text
from tests.great import MOST, hard_rules, swapped, words_joined
from tests.helpers import rng_of
from tests.test_phrases import random_phrases
from tests.test_time import great_texts

SECONDS = 4
NAMES = "abcdefgh"


def changed(rng, text, many):
    """A text behind so many changes by chance, which leave it about as long."""
    for _ in range(many):
        size = text.length
        start, stop = sorted([rng.randint(0, size), rng.randint(0, size)])
        kind = rng.randrange(6)
        if kind == 0 and size < MOST - 3:
            text = insert_at(text, start, Text.of_letters("xab"))
        elif kind == 1:
            text = remove_part(text, start, min(stop, start + 3))
        elif kind == 2:
            text = move_part(text, start, stop, rng.randint(0, size - (stop - start)))
        elif kind == 3:
            text = turn_part(text, start, stop)
        elif kind == 4 and size < MOST - 1000:
            text = insert_at(text, rng.randint(0, size), part_of(text, start, min(stop, start + 1000)))
        else:
            text = replace_part(text, start, start, part_of(text, stop, stop))
    return text


class TimeTest(unittest.TestCase):
    def timed(self, function, *told):
        start = time.monotonic()
        found = function(*told)
        self.assertLess(time.monotonic() - start, SECONDS, function.__name__)
        return found


class TestChanges(TimeTest):
    def test_each_change(self):
        for text in great_texts():
            size = text.length
            other = Text.of_letters("x" if size < MOST else "")
            for start, stop in ((0, size), (size // 3, size // 2), (size - 1, size), (7, 7)):
                for function in (part_of, remove_part, turn_part):
                    self.timed(function, text, start, stop)
                self.timed(replace_part, text, start, stop, other)
                self.timed(move_part, text, start, stop, (size - (stop - start)) // 2)
                self.timed(repeat_part, text, start, stop, 0)
                self.timed(repeat_part, text, size // 2, size // 2 + 1, MOST - size + 1)
            self.timed(insert_at, text, size // 2, other)

    def test_many_changes(self):
        for seed, text in enumerate(great_texts()):
            found = self.timed(changed, rng_of(seed), text, 300)
            self.assertGreater(found.length, text.length // 2)

    def test_many_phrases(self):
        for seed, text in enumerate(great_texts()):
            phrases, size = random_phrases(rng_of(seed), text.length, 300, 10 ** 8)
            found = self.timed(apply_phrases, text, phrases)
            self.assertEqual(found.length, size)
            self.timed(store_of, [found])

    def test_doubled_again_and_again(self):
        text = Text.of_letters("ab")
        start = time.monotonic()
        while text.length < MOST // 3:
            text = insert_at(turn_part(text, 0, text.length // 2), text.length // 3, text)
        self.timed(periods_of, text)
        self.assertLess(time.monotonic() - start, SECONDS)


class TestChangedTexts(TimeTest):
    def texts(self):
        texts = great_texts()
        return [changed(rng_of(seed), text, 60) for seed, text in enumerate(texts)]

    def test_asked_for_one(self):
        for text in self.texts():
            size = text.length
            for function in (periods_of, lambda text: store_of([text]), lambda text: key_of("period", [text])):
                self.timed(function, text)
            self.timed(palindrome_at, text, size)
            self.timed(stretch_around, text, size // 3, size // 2)
            self.timed(rotation_of, text, turned(text))
            self.timed(compare, text, turned(text))
            self.timed(text.letters, size // 2, size // 2 + 1000)

    def test_asked_for_two(self):
        texts = self.texts()
        for first, second in zip(texts, texts[1:]):
            self.timed(overlaps_of, first, second)
            for word in ("same", "occurs", "count"):
                self.timed(answer, word, [first, second])
                self.timed(answer, word, [part_of(second, second.length // 2, second.length // 2 + 5), second])
        self.timed(ordering, texts[:6])


class TestCuts(TimeTest):
    def test_is_cut(self):
        for seed, text in enumerate(great_texts()):
            phrases, _ = random_phrases(rng_of(seed), text.length, 100, 10 ** 9)
            other = apply_phrases(text, phrases)
            self.timed(is_cut, [text, other], [[("letter", text.letter(0))], phrases])
            row = [(word, told[0] + 1, *told[1:]) if word == "copy" else (word, *told) for word, *told in phrases]
            self.timed(store_bound, [Text.of_letters("a"), text, other], [[("letter", "a")], [("copy", 0, 0, 1)], row])

    def test_shortest_cut(self):
        rng = rng_of(4)
        for texts in ([Text([("letters", "a"), ("power", 0, 4096)])], [Text(words_joined(15))], [Text(swapped(12))],
                      [Text([("letters", "ab"), ("power", 0, 32)])] * 64, [Text.of_letters("a")] * 4096,
                      [Text.of_letters(rng.choice(LETTERS) + rng.choice(LETTERS)) for _ in range(2048)],
                      [Text.of_letters("".join([rng.choice("ab") for _ in range(4096)]))],
                      [Text.of_letters("".join([rng.choice(LETTERS) for _ in range(4096)]))],
                      [Text.of_letters("".join(["a" * many + "b" for many in range(90)])[:4096])]):
            cut = self.timed(shortest_cut, texts)
            self.assertTrue(self.timed(is_cut, texts, cut))
            self.assertIsNotNone(self.timed(store_bound, texts, cut))


class TestBench(TimeTest):
    def test_eight_texts(self):
        bench = Bench()
        for seed, (name, text) in enumerate(zip(NAMES, great_texts())):
            bench.set_text(name, changed(rng_of(seed), text, 30))
        for name, question in zip(NAMES, (("same", "a", "b"), ("occurs", "h", "a"), ("count", "g", "c"), ("period", "d"),
                                          ("same", "e", "f"), ("period", "c"), ("count", "b", "d"), ("same", "g", "h"))):
            bench.set_question(name, question)
        self.timed(bench.answers)
        self.timed(bench.store)
        for name in NAMES:
            size = bench.text(name).length
            for method, *told in ((bench.turn, name, 5, size - 5), (bench.move, name, 0, size // 3, size // 2),
                                  (bench.take_out, name, size // 2, size // 2 + 2), (bench.insert, name, 3, Text.of_letters("x")),
                                  (bench.copy_part, name, 0, 1, "a", 5), (bench.repeat, name, 1, 2, 2),
                                  (bench.spell, name, [("copy", 0, 0, size // 2)])):
                if size < MOST or method in (bench.turn, bench.move, bench.spell):
                    self.timed(method, *told)
            self.timed(bench.answers)
        for _ in range(20):
            self.timed(bench.undo)
        self.timed(bench.answers)

    def test_hundreds_of_changes(self):
        rng, bench = rng_of(9), Bench()
        bench.set_text("a", Text(hard_rules(rng)))
        bench.set_text("b", Text.of_letters("ab"))
        bench.set_question("q", ("same", "a", "b"))
        start = time.monotonic()
        for number in range(300):
            size = bench.text("b").length
            low, high = sorted([rng.randint(0, size), rng.randint(0, size)])
            if number % 3 == 0 and size < 10 ** 6:
                bench.copy_part("a", 100, 100 + rng.randint(0, 9), "b", low)
            elif number % 3 == 1:
                bench.turn("b", low, high)
            elif size > 200:
                bench.take_out("b", low, high)
            bench.answers()
        self.assertLess(time.monotonic() - start, 5 * SECONDS)
