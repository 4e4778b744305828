"""I1 to I5: many calls of a bench, one behind the other, against a plain model of it."""

import unittest

from shortheld.bench import Bench
from shortheld.errors import HeldError
from shortheld.store import store_of
from shortheld.text import Text
from tests.helpers import rng_of
from tests.plain_bench import Fault, PlainBench
from tests.ways import by_rules, letters, string_of

NAMES = ["a", "b", "ab", "", "c" * 24, "d" * 25, "e", "f", "g", "h", "i", "~"]
ALWAYS = ("a", "b", "ab")


class Walk:
    """A bench and its model, and calls of both by chance."""

    def __init__(self, test, seed, longest):
        self.test = test
        self.rng = rng_of(seed)
        self.longest = longest
        self.bench = Bench()
        self.plain = PlainBench()
        for name in ALWAYS:
            self.call("set_text", (name, self.string()))
        for name, question in zip(ALWAYS, (("same", "a", "b"), ("count", "a", "ab"), ("period", "b"))):
            self.call("set_question", (name, question))

    def name(self):
        return self.rng.choice(ALWAYS if self.rng.random() < 0.93 else NAMES)

    def string(self):
        return "".join([self.rng.choice("ab") for _ in range(self.rng.choice((0, 1, 2, 3, 5, 8)))])

    def size(self, name):
        return len(self.plain.now()[0].get(name, ""))

    def part(self, name):
        """The places of a part of a text, at times of none."""
        size = self.size(name)
        start, stop = sorted([self.rng.randint(0, size), self.rng.randint(0, size)])
        return self.rng.choice([(start, stop)] * 30 + [(stop, start), (-1, stop), (start, size + 1)])

    def place(self, size):
        return self.rng.choice([self.rng.randint(0, max(size, 0))] * 20 + [-1, size + 1])

    def question(self):
        word = self.rng.choice(("same", "occurs", "count", "period"))
        names = [self.name() for _ in range(1 if word == "period" else 2)]
        return self.rng.choice([(word, *names)] * 12 + [(), ("word", *names), (word, *names, "a"), (word,)])

    def phrases(self, name):
        phrases, spelled = [], 0
        for _ in range(self.rng.randint(0, 6)):
            kind = self.rng.choice(("letter", 0, 1))
            if kind == "letter":
                phrases.append(("letter", self.rng.choice("ab")))
            else:
                size = spelled if kind else self.size(name)
                start = self.rng.randrange(size) if size else 0
                phrases.append(("copy", kind, start, self.rng.randint(1, 6)))
            spelled += 1 if kind == "letter" else phrases[-1][3]
        return phrases

    def arguments(self, method):
        name = self.name()
        if method in ("set_text", "insert"):
            string = self.string()
            return (name, string) if method == "set_text" else (name, self.place(self.size(name)), string)
        if method in ("remove_text", "text", "question", "remove_question"):
            return (name,)
        if method == "take_out" or method == "turn":
            return (name, *self.part(name))
        if method == "move":
            start, stop = self.part(name)
            return (name, start, stop, self.place(self.size(name) - (stop - start)))
        if method == "repeat":
            return (name, *self.part(name), self.rng.choice((0, 1, 2, 3, -1, 10 ** 12 + 1)))
        if method == "spell":
            return (name, self.phrases(name))
        if method == "copy_part":
            other = self.name()
            return (name, *self.part(name), other, self.place(self.size(other)))
        if method == "set_question":
            return (name, self.question())
        return (name, self.name()) if method == "phrases" else ()

    def method(self):
        if self.rng.random() < 0.35:
            return self.rng.choice(("undo", "undo", "redo", "redo", "answers", "answers", "answers", "work"))
        if max([len(string) for string in self.plain.now()[0].values()], default=0) > self.longest:
            return self.rng.choice(("take_out", "take_out", "undo", "spell", "set_text"))
        return self.rng.choice(("set_text", "set_text", "remove_text", "insert", "take_out", "move", "turn", "repeat", "spell", "copy_part",
                                "set_question", "set_question", "set_question", "remove_question", "text", "question", "phrases"))

    def told_to_bench(self, value):
        """Strings of letters, which are texts for the bench, by some rules."""
        return self.rng.choice((letters, by_rules))(value) if isinstance(value, str) else value

    def step(self):
        method = self.method()
        self.call(method, self.arguments(method))

    def call(self, method, told):
        """Call a method of both, the bench with texts for strings."""
        mine = told
        if method in ("set_text", "insert"):
            mine = (*told[:-1], self.told_to_bench(told[-1]))
        try:
            want, fault = getattr(self.plain, method)(*told), None
        except Fault as caught:
            want, fault = None, caught
        if fault is not None:
            with self.test.assertRaises(HeldError) as raised:
                getattr(self.bench, method)(*mine)
            self.test.assertEqual((raised.exception.__class__.__name__, vars(raised.exception)), (fault.word, fault.told), (method, told))
        else:
            found = getattr(self.bench, method)(*mine)
            found = string_of(found) if isinstance(found, Text) else found
            self.test.assertEqual(found, want, (method, told))

    def check(self):
        self.test.assertEqual(len(self.bench), len(self.plain))
        self.test.assertEqual(self.bench.texts(), self.plain.texts())
        self.test.assertEqual(self.bench.questions(), self.plain.questions())
        for name in self.plain.texts():
            self.test.assertEqual(string_of(self.bench.text(name)), self.plain.text(name))
        for name in self.plain.questions():
            self.test.assertEqual(self.bench.question(name), self.plain.question(name))


class TestWalks(unittest.TestCase):
    def walk(self, seed, steps, longest):
        walk = Walk(self, seed, longest)
        for number in range(steps):
            walk.step()
            walk.check()
            if number % 20 == 0:
                strings = [walk.plain.text(name) for name in walk.plain.texts()]
                self.assertEqual(walk.bench.store(), store_of([letters(string) for string in strings]))
        return walk

    def test_short_texts(self):
        for seed in range(80):
            self.walk(seed, 250, 12)

    def test_long_walks(self):
        for seed in (100, 101, 102):
            self.walk(seed, 3000, 30)

    def test_longer_texts(self):
        for seed in range(200, 212):
            self.walk(seed, 200, 1500)

    def test_the_walks_come_everywhere(self):
        """Each kind of error comes up, and most calls raise none."""
        words, right = set(), 0
        for seed in range(25):
            walk = Walk(self, seed, 12)
            for _ in range(200):
                method = walk.method()
                try:
                    getattr(walk.plain, method)(*walk.arguments(method))
                    right += 1
                except Fault as fault:
                    words.add(fault.word)
        self.assertEqual({"BadName", "NoText", "NoQuestion", "InUse", "NothingLeft", "NoPart", "NoPlace", "BadTimes", "BadPhrase",
                          "BadQuestion"} - words, set())
        self.assertGreater(right, 3000)
