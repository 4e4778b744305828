"""What is an end of one text and a beginning of another one."""

from shortheld.progressions import cut
from shortheld.sought import NOTHING, Sought
from shortheld.trees import Trees


def overlaps_of(first, second):
    """The tuple of the progressions of all overlaps of two texts."""
    if first.length == 0 or second.length == 0:
        return ()
    trees = Trees([first, second])
    overlaps = Overlaps(trees, trees.roots[0], trees.roots[1])
    rows = [overlaps.from_size(size) for size in overlaps.sizes]
    return cut([row for row in rows if row[2]])


class Overlaps:
    """The overlaps of two texts with letters, told by their roots.

    Overlaps with at least `size` letters and less than twice as many are found by the beginning of the second text
    that has so many letters: it stands where they start, and these places are at equal distances.
    """

    def __init__(self, trees, first, second):
        self.trees = trees
        self.first = first
        self.second = second
        self.end = trees.lengths[first]
        self.most = min(self.end, trees.lengths[second])
        # All sizes 1, 2, 4 .. of which there are overlaps with at least so many letters, perhaps.
        self.sizes = [1]
        while 2 * self.sizes[-1] <= self.most:
            self.sizes.append(2 * self.sizes[-1])

    def from_size(self, size):
        """The progression of the overlaps with at least so many letters, and less than twice as many."""
        sought = Sought(self.trees, self.second, 0, size)
        longest = min(2 * size - 1, self.most)
        place, step, count = self.starting(sought.near(self.first, self.end - longest, self.end - size))
        return (self.end - place - step * (count - 1), step, count) if count else NOTHING

    def starting(self, row):
        """Those places of a progression, at which the beginning stands, at which an overlap starts."""
        place, step, count = row
        if count < 2:
            return row if count and self.is_overlap(place) else NOTHING
        behind = place + step + self.trees.common_from(self.first, place, self.first, place + step)
        most = step + self.trees.common_from(self.second, 0, self.second, step)
        if behind < self.end:
            return self.starting_at(row, behind - most)
        skipped = max(0, (self.end - most - place + step - 1) // step)
        if skipped >= count:
            return NOTHING
        return (place + step * skipped, step if count - skipped > 1 else 0, count - skipped)

    def starting_at(self, row, place):
        """A place, the only one of a progression at which an overlap can start, as a progression."""
        first, step, count = row
        number, rest = divmod(place - first, step)
        return (place, 0, 1) if rest == 0 and 0 <= number < count and self.is_overlap(place) else NOTHING

    def is_overlap(self, place):
        """Whether the letters of the first text from a place on are a beginning of the second one."""
        return self.trees.common_from(self.first, place, self.second, 0) >= self.end - place
