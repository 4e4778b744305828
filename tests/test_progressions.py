"""D1: ascending numbers as progressions."""

import unittest

from shortheld.progressions import cut
from tests import slow
from tests.helpers import rng_of

FAR = 10 ** 12


class TestCut(unittest.TestCase):
    def check(self, rows):
        """The progressions are those of the numbers, one by one, for lists and tuples."""
        want = slow.cut(slow.numbers_of(rows))
        before = [list(row) for row in rows]
        as_lists = [list(row) for row in rows]
        for told in (list(rows), tuple(rows), as_lists):
            found = cut(told)
            self.assertEqual(found, want, rows)
            self.assertIsInstance(found, tuple)
            self.assertTrue(all(isinstance(row, tuple) for row in found))
            self.assertEqual([list(row) for row in told], before)

    def test_example(self):
        want = ((3, 3, 2), (7, 1, 2))
        self.assertEqual(cut([(3, 0, 1), (6, 0, 1), (7, 0, 1), (8, 0, 1)]), want)
        self.assertEqual(cut([(3, 3, 2), (7, 1, 2)]), want)
        self.assertEqual(cut([(3, 0, 1), (6, 1, 3)]), want)

    def test_no_rows(self):
        self.assertEqual(cut([]), ())
        self.assertEqual(cut(()), ())

    def test_one_number_with_any_step(self):
        for step in (0, 1, 5, -3, FAR):
            self.assertEqual(cut([(4, step, 1)]), ((4, 0, 1),))
            self.assertEqual(cut([(4, step, 1), (6, -step, 1), (8, step, 1), (9, step, 1)]), ((4, 2, 3), (9, 0, 1)))

    def test_one_row(self):
        for count in (1, 2, 3, 10):
            for step in (1, 2, 7):
                self.check([(5, step, count)])

    def test_rows_that_go_on(self):
        self.assertEqual(cut([(1, 2, 3), (7, 2, 4)]), ((1, 2, 7),))
        self.assertEqual(cut([(1, 2, 3), (7, 0, 1), (9, 2, 2)]), ((1, 2, 6),))
        self.assertEqual(cut([(1, 1, 2), (3, 2, 3)]), ((1, 1, 3), (5, 2, 2)))

    def test_rows_that_do_not(self):
        self.assertEqual(cut([(1, 2, 3), (8, 2, 4)]), ((1, 2, 3), (8, 2, 4)))
        self.assertEqual(cut([(1, 2, 3), (6, 2, 4)]), ((1, 2, 3), (6, 2, 4)))
        self.assertEqual(cut([(1, 1, 2), (4, 1, 2), (7, 1, 2)]), ((1, 1, 2), (4, 1, 2), (7, 1, 2)))

    def test_from_the_left(self):
        """A number that two could take goes to the left one, also if the right one were longer with it."""
        self.assertEqual(cut([(1, 0, 1), (3, 1, 5)]), ((1, 2, 2), (4, 1, 4)))
        self.assertEqual(cut([(0, 5, 2), (10, 1, 6)]), ((0, 5, 3), (11, 1, 5)))
        self.assertEqual(cut([(0, 1, 3), (10, 0, 1), (11, 0, 1), (12, 0, 1)]), ((0, 1, 3), (10, 1, 3)))

    def test_great_rows(self):
        self.assertEqual(cut([(0, 3, FAR), (3 * FAR, 3, FAR), (6 * FAR, 0, 1)]), ((0, 3, 2 * FAR + 1),))
        self.assertEqual(cut([(0, 3, FAR), (3 * FAR, 2, FAR)]), ((0, 3, FAR + 1), (3 * FAR + 2, 2, FAR - 1)))
        self.assertEqual(cut([(7, 0, 1), (FAR, 1, FAR)]), ((7, FAR - 7, 2), (FAR + 1, 1, FAR - 1)))

    def test_all_rows_of_few_numbers(self):
        """All sets of numbers below 10, each number a row, and cut into rows in some way."""
        for bits in range(1024):
            numbers = [number for number in range(10) if bits >> number & 1]
            self.check([(number, bits % 3, 1) for number in numbers])
            self.check(list(slow.cut(numbers)))
            self.check([row for row in slow.cut(numbers[:3]) + slow.cut(numbers[3:])])

    def test_random_rows(self):
        for seed in range(2000):
            rng = rng_of(seed)
            rows, place = [], rng.randint(0, 3)
            for _ in range(rng.randint(0, 7)):
                step, count = rng.choice((1, 1, 2, 3)), rng.choice((1, 1, 2, 3, 5))
                rows.append((place, step, count))
                place += step * (count - 1) + rng.choice((1, 1, 2, 3))
            self.check(rows)
