"""Stretches of texts that have a period."""

from shortheld.errors import NoPart
from shortheld.sought import Sought
from shortheld.trees import Trees


def stretch_around(text, start, stop):
    """The greatest stretch around a part that has the least period of the part: (the period, from where, up to where).

    None if the part has fewer letters than twice its least period.
    """
    if not 0 <= start < stop <= text.length:
        raise NoPart(start, stop)
    trees = Trees([text])
    root = trees.roots[0]
    period = short_period(trees, root, start, stop)
    if period is None:
        return None
    low = start - trees.common_to(root, start, root, start + period)
    return (period, low, stop + trees.common_from(root, stop, root, stop - period))


def short_period(trees, root, start, stop):
    """The least period of a part, None if the part has fewer letters than twice this.

    The first half of the part, its middle letter included, stands next where it is repeated: if it stood earlier, too,
    the letters of one period would be a power.
    """
    half = (stop - start) // 2
    if half == 0:
        return None
    sought = Sought(trees, root, start, stop - half)
    place = sought.near(root, start + 1, start + half)[0]
    if place is None or trees.common_from(root, start, root, place) < stop - place:
        return None
    return place - start
