"""The symbols that stand wherever some letters stand.

Of the symbols that a step makes of some letters, those at the ends can be others where other letters stand beside
them. They are left out before the step. What is left out is there wherever these letters stand, and so is what is
left: the symbols in the middle depend on the symbols beside them alone.
"""


class Core:
    """What of the part of a symbol from start up to stop is not left out."""

    def __init__(self, trees, symbol, start, stop):
        self.trees = trees
        self.symbol = symbol
        self.start = start
        self.stop = stop
        # What is left out: a list of (symbol, times, the place of the symbol at which it starts).
        self.left_out = []
        level = 0
        while self.start < self.stop:
            self.leave_runs(level + 1)
            self.leave_singles(level + 2)
            level += 2

    def node_at(self, place, level):
        """What covers a place behind so many steps: its symbol, where it starts, and the place behind it."""
        symbol, start = self.trees.node_at(self.symbol, place, level)
        return (symbol, start, start + self.trees.lengths[symbol])

    def leave_runs(self, level):
        """Leave out what stands at the ends, and what is the same beside it: a run can go on outside."""
        if self.start < self.stop:
            stop = self.node_at(self.start, level)[2]
            self.leave_first(level - 1, min(stop, self.stop))
        if self.start < self.stop:
            start = self.node_at(self.stop - 1, level)[1]
            self.leave_last(level - 1, max(start, self.start))

    def leave_singles(self, level):
        """Leave out a symbol at an end that is in no pair inside: it can be in one with a symbol outside."""
        if self.start < self.stop and not self.is_pair(self.start, level):
            self.leave_first(level - 1, self.node_at(self.start, level - 1)[2])
        if self.start < self.stop and not self.is_pair(self.stop - 1, level):
            self.leave_last(level - 1, self.node_at(self.stop - 1, level - 1)[1])

    def is_pair(self, place, level):
        """Whether a pair of this step covers a place, a pair that is not cut."""
        symbol, start, stop = self.node_at(place, level)
        return self.trees.levels[symbol] == level and self.start <= start and stop <= self.stop

    def leave_first(self, level, stop):
        """Leave out what stands ahead of a place, so many times the same symbol."""
        symbol = self.node_at(self.start, level)[0]
        times = (stop - self.start) // self.trees.lengths[symbol]
        self.left_out.append((symbol, times, self.start))
        self.start = stop

    def leave_last(self, level, start):
        """Leave out what stands from a place on, so many times the same symbol."""
        symbol = self.node_at(start, level)[0]
        times = (self.stop - start) // self.trees.lengths[symbol]
        self.left_out.append((symbol, times, start))
        self.stop = start


def anchor_of(trees, symbol, start, stop):
    """The longest that stands wherever the letters of a part of a symbol stand: (symbol, times, place in the part)."""
    found = Core(trees, symbol, start, stop).left_out
    base, times, place = max(found, key=lambda row: trees.lengths[row[0]] * row[1])
    return (base, times, place - start)
