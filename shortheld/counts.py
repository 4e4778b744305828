"""How often a pattern stands in a text."""

from shortheld.sought import Sought
from shortheld.trees import Trees


def counts_of(pattern, text):
    """The occurrences of a pattern with letters in a text that is not shorter, in a store of both."""
    trees = Trees([pattern, text])
    return Counts(trees, trees.roots[0], trees.roots[1])


class Counts:
    """The occurrences of a pattern with letters in a text that is not shorter, both told by their roots.

    For each symbol of the text that is long enough, `totals` tells how many there are in it, and `crossing` the
    progression of those that lie within none of its parts; for a run, of those alone that begin in its first part.
    """

    def __init__(self, trees, pattern, root):
        self.trees = trees
        self.length = trees.lengths[pattern]
        self.root = root
        self.sought = Sought(trees, pattern, 0, self.length)
        self.crossing = {}
        self.totals = {}
        for symbol in self.long_symbols():
            self.crossing[symbol] = self.crossing_in(symbol)
            self.totals[symbol] = self.total_of(symbol)
        self.total = self.totals[self.root]

    def long_symbols(self):
        """The symbols of the text that have at least as many letters as the pattern, ascending."""
        found = {self.root: True}
        for symbol in range(self.root, -1, -1):
            if symbol in found:
                for part, _ in self.trees.parts[symbol]:
                    if self.trees.lengths[part] >= self.length:
                        found[part] = True
        return sorted(found)

    def crossing_in(self, symbol):
        """The progression of what crosses the end of the first part of a symbol, or is the letter itself."""
        parts = self.trees.parts[symbol]
        if not parts:
            return self.sought.near(symbol, 0, 0)
        size = self.trees.lengths[parts[0][0]]
        return self.sought.near(symbol, size - self.length + 1, size - 1)

    def total_of(self, symbol):
        """How many occurrences there are in a symbol."""
        total = self.crossing_before(symbol, self.trees.lengths[symbol])
        for part, times in self.trees.parts[symbol]:
            total += self.totals.get(part, 0) * times
        return total

    def crossing_before(self, symbol, place):
        """How many that lie within no part of a symbol begin ahead of a place of it."""
        row = self.crossing[symbol]
        if len(self.trees.parts[symbol]) != 1:
            return many_below(row, place)
        size = self.trees.lengths[self.trees.parts[symbol][0][0]]
        place = min(place, self.trees.lengths[symbol] - self.length + 1)
        return row[2] * (place // size) + many_below(row, place % size)

    def many_ahead(self, place):
        """How many occurrences begin ahead of a place of the text."""
        symbol = self.root
        place = max(place, 0)
        many = 0
        while symbol in self.totals:
            many += self.crossing_before(symbol, place)
            whole, symbol, place = self.passed(symbol, place)
            many += whole
        return many

    def passed(self, symbol, place):
        """What of a symbol lies ahead of a place: how many occurrences whole parts have, the part cut, and where."""
        many = 0
        for part, times in self.trees.parts[symbol]:
            size = self.trees.lengths[part]
            whole = min(place // size, times)
            many += self.totals.get(part, 0) * whole
            place -= size * whole
            if whole < times:
                return (many, part, place)
        return (many, None, 0)

    def nth(self, number):
        """The occurrence with a number from 0 to one less than the total."""
        low = 0
        high = self.trees.lengths[self.root] - self.length
        while low < high:
            middle = (low + high) // 2
            if self.many_ahead(middle + 1) > number:
                high = middle
            else:
                low = middle + 1
        return low


def many_below(row, place):
    """How many numbers of a progression are less than a place."""
    first, step, count = row
    if count == 0 or place <= first:
        return 0
    return min(count, (place - first - 1) // step + 1) if step else 1
