"""The errors of the package."""

import unittest

from shortheld import errors
from shortheld.errors import BadRules, BadTimes, Empty, HeldError, NoPart, NoPlace, TooLarge, TooLong


class TestErrors(unittest.TestCase):
    def test_base(self):
        self.assertEqual(HeldError.__bases__, (ValueError,))
        self.assertEqual(HeldError.__module__, errors.__name__)

    def test_directly_under_it(self):
        for error in (BadRules, NoPlace, NoPart, TooLong, TooLarge, BadTimes, Empty):
            self.assertEqual(error.__bases__, (HeldError,))

    def test_attributes(self):
        wrong = BadRules(3, "part")
        self.assertEqual((wrong.number, wrong.reason), (3, "part"))
        self.assertEqual(NoPlace(-1).place, -1)
        missing = NoPart(4, 2)
        self.assertEqual((missing.start, missing.stop), (4, 2))

    def test_without_attributes(self):
        for error in (TooLong, TooLarge, BadTimes, Empty):
            with self.assertRaises(HeldError):
                raise error("why")
