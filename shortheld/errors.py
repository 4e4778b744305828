"""The errors that several modules of the package raise."""


class HeldError(ValueError):
    """The base of all errors of the package."""


class BadRules(HeldError):
    """The rules of a text are wrong: the number of the first wrong one, and why."""

    def __init__(self, number, reason):
        super().__init__(f"rule {number} is wrong: {reason}")
        self.number = number
        self.reason = reason


class NoPlace(HeldError):
    """A text has no such place."""

    def __init__(self, place):
        super().__init__(f"there is no place {place}")
        self.place = place


class NoPart(HeldError):
    """A text has no such part."""

    def __init__(self, start, stop):
        super().__init__(f"there is no part from {start} to {stop}")
        self.start = start
        self.stop = stop


class TooLong(HeldError):
    """More letters are asked for at once than are spelled."""


class TooLarge(HeldError):
    """A text would have more letters than a text may have."""


class BadTimes(HeldError):
    """Something cannot be repeated so many times."""


class Empty(HeldError):
    """A text that must have letters has none."""
