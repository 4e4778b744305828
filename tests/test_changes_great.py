"""H1 on great texts, against rows of pieces of the text that was changed first."""

import unittest

from shortheld.changes import insert_at, move_part, part_of, remove_part, repeat_part, replace_part, turn_part
from shortheld.common import first_difference, same, turned
from shortheld.text import Text
from tests.great import MOST, hard_rules, kinds_of_rules, retold, words_joined
from tests.helpers import rng_of

FAR = 10 ** 11


class Pieces:
    """A text as a list of pieces (start, stop, whether it is turned round) of a first one."""

    def __init__(self, pieces):
        self.pieces = [piece for piece in pieces if piece[0] < piece[1]]

    def size(self):
        return sum(stop - start for start, stop, _ in self.pieces)

    def part(self, start, stop):
        out, place = [], 0
        for low, high, back in self.pieces:
            first, last = max(start - place, 0), min(stop - place, high - low)
            if first < last:
                out.append((high - last, high - first, back) if back else (low + first, low + last, back))
            place += high - low
        return out

    def around(self, start, stop, pieces):
        return Pieces(self.part(0, start) + pieces + self.part(stop, self.size()))

    def turned(self, start, stop):
        return [(low, high, not back) for low, high, back in self.part(start, stop)[::-1]]

    def letter(self, text, place):
        ((low, _, _),) = self.part(place, place + 1)
        return text.letter(low)

    def text(self, text):
        """The same text by rules of the first one."""
        rules = [*text.rules, ("letters", "")]
        first, last = len(text.rules) - 1, len(text.rules)
        for low, high, back in self.pieces:
            rules.append(("part", first, low, high))
            if back:
                rules.append(("back", len(rules) - 1))
            rules.append(("join", last, len(rules) - 1))
            last = len(rules) - 1
        return Text.made(rules)


class TestManyChanges(unittest.TestCase):
    def changed(self, rng, text, pieces):
        """A text and its pieces with some change of both."""
        size = text.length
        start = rng.randint(0, size)
        stop = min(size, start + rng.choice((0, 1, 1000, size // 2, size)))
        part = pieces.part(start, stop)
        kind = rng.randrange(7)
        if kind == 0 and size > 10 ** 6:
            return remove_part(text, start, stop), pieces.around(start, stop, [])
        if kind == 1:
            return turn_part(text, start, stop), pieces.around(start, stop, pieces.turned(start, stop))
        if kind == 2 and size < MOST // 4:
            return repeat_part(text, start, stop, 3), pieces.around(start, stop, part * 3)
        if kind == 3 and size < MOST // 4:
            place = rng.randint(0, size)
            return insert_at(text, place, part_of(text, start, stop)), pieces.around(place, place, part)
        if kind == 4 and size < MOST // 4:
            place = rng.randint(0, size)
            return replace_part(text, start, stop, turned(text)), pieces.around(start, stop, pieces.turned(0, size))
        rest = pieces.around(start, stop, [])
        place = rng.randint(0, rest.size())
        return move_part(text, start, stop, place), rest.around(place, place, part)

    def test_changes_of_changed_texts(self):
        for seed, rules in kinds_of_rules(6):
            rng, first = rng_of(seed), Text(rules)
            text, pieces = first, Pieces([(0, first.length, False)])
            for _ in range(25):
                before = (text.rules, text.lengths, text.length)
                other, pieces = self.changed(rng, text, pieces)
                self.assertEqual((text.rules, text.lengths, text.length), before)
                text = other
                self.assertEqual(text.length, pieces.size())
                for place in [rng.randrange(text.length) for _ in range(5) if text.length]:
                    self.assertEqual(text.letter(place), pieces.letter(first, place))
            self.assertTrue(same(text, pieces.text(first)))

    def test_hundreds_of_changes(self):
        """Of letters put in at both ends, in the middle and at places anywhere, and taken out again."""
        for seed in range(3):
            rng = rng_of(seed)
            rules = (words_joined(50), hard_rules(rng), [("letters", "ab"), ("power", 0, FAR)])[seed]
            text = first = Text(rules)
            places = []
            for number in range(200):
                place = (0, text.length, text.length // 2, rng.randint(0, text.length))[number % 4]
                text = insert_at(text, place, Text.of_letters("~x~"))
                places.append(place)
            self.assertEqual(text.length, first.length + 600)
            for place in places[::-1]:
                self.assertEqual(text.letters(place, place + 3), "~x~")
                text = remove_part(text, place, place + 3)
            self.assertIsNone(first_difference(text, first))

    def test_the_same_part_turned_again_and_again(self):
        for _, rules in kinds_of_rules(6):
            first = text = Text(rules)
            for number in range(100):
                text = turn_part(text, text.length // 7, text.length - text.length // 5)
            self.assertTrue(same(text, first))

    def test_copies_of_each_other(self):
        """Rules that two texts have in common are not told twice, however often each is put into the other."""
        first, second = Text(hard_rules(rng_of(1))), Text.of_letters("ab")
        for _ in range(60):
            first = insert_at(first, first.length // 2, part_of(second, 0, min(2, second.length)))
            second = insert_at(second, 1, part_of(first, 0, min(3, first.length)))
            second, first = replace_part(second, 0, second.length - 1, first), part_of(first, 0, first.length // 2 + 1)
            first, second = insert_at(first, 0, part_of(second, 0, 100)), part_of(second, 0, min(second.length, 10 ** 6))
        self.assertLess(len(first.rules) + len(second.rules), 10000)
        third, fourth = Text([("letters", "a"), ("power", 0, 2000)]), Text([("letters", "b"), ("power", 0, 2000)])
        sizes = [2000, 2000]
        for _ in range(20):
            third = insert_at(third, 1000, fourth)
            fourth = insert_at(fourth, 1000, third)
            sizes = [sum(sizes), sum(sizes) + sizes[1]]
            self.assertEqual([third.length, fourth.length], sizes)
        self.assertLess(len(third.rules) + len(fourth.rules), 1000)
        self.assertEqual(fourth.letters(999, 1001), "ba")
        self.assertEqual(fourth.letter(fourth.length - 1), "b")


class TestClosedForms(unittest.TestCase):
    def check(self, found, rules):
        want = Text(rules)
        self.assertEqual(found.length, want.length)
        self.assertTrue(same(found, want))

    def test_powers(self):
        ab, ba = [("letters", "ab")], [("letters", "ba")]
        rules = [*ab, ("power", 0, FAR)]
        for text in (Text(rules), Text.made(retold(rules))):
            size = text.length
            self.check(part_of(text, 1, size - 1), [*ba, ("power", 0, FAR - 1)])
            self.check(remove_part(text, 1001, size - 1), [*ab, ("power", 0, 501)])
            self.check(remove_part(text, 1000, 2000), [*ab, ("power", 0, FAR - 500)])
            self.check(replace_part(text, 2, 3, Text.of_letters("x")),
                       [("letters", "abxb"), *ab, ("power", 1, FAR - 2), ("join", 0, 2)])
            self.check(insert_at(text, size, text), [*ab, ("power", 0, 2 * FAR)])
            self.check(insert_at(text, 1, text), [*rules, ("letters", "a"), ("letters", "b"), ("power", 0, FAR - 1),
                                                  ("join", 2, 1), ("join", 5, 3), ("join", 6, 4)])
            self.check(move_part(text, 0, 1, size - 1), [*ba, ("power", 0, FAR)])
            self.check(move_part(text, 0, FAR, FAR), rules)
            self.check(turn_part(text, 0, size), [*ba, ("power", 0, FAR)])
            self.check(turn_part(text, 1, size), rules)
            self.check(turn_part(text, 0, 2), [*ba, *ab, ("power", 1, FAR - 1), ("join", 0, 2)])
            self.check(repeat_part(text, 0, 2, FAR), [*ab, ("power", 0, 2 * FAR - 1)])
            self.check(repeat_part(text, 0, size, 5), [*ab, ("power", 0, 5 * FAR)])
            self.check(repeat_part(text, 10, size, 0), [*ab, ("power", 0, 5)])

    def test_the_most_letters(self):
        text = repeat_part(Text.of_letters("ab"), 0, 2, MOST // 2)
        self.assertEqual(text.length, MOST)
        self.assertTrue(same(turn_part(text, 1, MOST), text))
        self.assertEqual(turn_part(text, 0, MOST).letters(0, 3), "bab")
        text = insert_at(remove_part(text, 7, 8), 7, Text.of_letters("x"))
        self.assertEqual((text.length, text.letters(5, 10)), (MOST, "baxab"))
