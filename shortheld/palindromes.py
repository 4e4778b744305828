"""Palindromes in texts."""

from shortheld.common import common_from, same, turned
from shortheld.errors import HeldError


class NoCentre(HeldError):
    """A text has no such centre."""

    def __init__(self, centre):
        super().__init__(f"there is no centre {centre}")
        self.centre = centre


def is_palindrome(text):
    """Whether a text is the same when it is turned round."""
    return same(text, turned(text))


def palindrome_at(text, centre):
    """The length of the greatest palindrome around a centre."""
    if not 0 <= centre <= 2 * text.length:
        raise NoCentre(centre)
    # Up to here, and from here on, the letters stand that are not on the centre.
    left = centre // 2
    right = centre - left
    return centre % 2 + 2 * common_from(text, right, turned(text), text.length - left)


def stretch_at(text, centre):
    """From where up to where the greatest palindrome around a centre goes."""
    many = palindrome_at(text, centre)
    return ((centre - many) // 2, (centre + many) // 2)
