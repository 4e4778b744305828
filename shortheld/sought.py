"""Where the letters of a part of a symbol stand in what other symbols stand for, near a place."""

from shortheld.anchors import anchor_of

NOTHING = (None, 0, 0)


class Sought:
    """The letters of a symbol from start up to stop, one letter at least, which are looked for."""

    def __init__(self, trees, symbol, start, stop):
        self.trees = trees
        self.symbol = symbol
        self.start = start
        self.length = stop - start
        # The anchor: a symbol so many times, which stands at this place of the letters wherever they stand.
        self.base, self.times, self.place = anchor_of(trees, symbol, start, stop)
        self.step = trees.lengths[self.base]
        self.size = self.step * self.times
        # From where up to where the letters go on as they would if the anchor's symbol were repeated.
        low, high = self.stretch_around(symbol, start + self.place, self.size)
        self.low = max(low - start, 0)
        self.high = min(high - start, self.length)
        self.has_anchor = self.holders()

    def stretch_around(self, symbol, place, size):
        """From where up to where the letters of a symbol are those of the anchor's symbol again and again.

        This symbol stands at a place, and behind it, as far as the size tells.
        """
        trees = self.trees
        behind = place + size
        low = place - trees.common_to(symbol, place, symbol, place + self.step)
        return (low, behind + trees.common_from(symbol, behind, symbol, behind - self.step))

    def holders(self):
        """For each symbol whether the anchor stands in it, as a list."""
        holds = []
        for parts in self.trees.parts:
            holds.append(any([holds[part] or self.is_anchor(part, times) for part, times in parts]))
        return holds

    def is_anchor(self, symbol, times):
        """Whether so many times a symbol have the anchor within them."""
        return symbol == self.base and times >= self.times

    def near(self, symbol, first, last):
        """The progression of the places of a symbol, from first to last, at which the letters stand.

        There are fewer places than letters. The first place found is None if there is none.
        """
        first = max(first, 0)
        last = min(last, self.trees.lengths[symbol] - self.length)
        found = []
        for place, times in self.runs_near(symbol, first + self.place, last + self.place + self.size):
            found.append(self.by_run(symbol, place, times, first, last))
        return together([row for row in found if row[2]])

    def runs_near(self, symbol, start, stop):
        """Where the anchor's symbol stands often enough in a part of a symbol: a list of (place, times)."""
        runs = []
        waiting = [(symbol, 1, 0)]
        while waiting:
            now, times, place = waiting.pop()
            if self.is_anchor(now, times):
                runs.append((place, times))
            elif self.has_anchor[now]:
                size = self.trees.lengths[now]
                most = min(times, (stop - place + size - 1) // size)
                for number in range(max(0, (start - place) // size), most):
                    waiting.extend(self.placed(now, place + number * size))
        return runs

    def placed(self, symbol, place):
        """The parts of a symbol that starts at a place: a list of (symbol, times, place)."""
        out = []
        for part, times in self.trees.parts[symbol]:
            out.append((part, times, place))
            place += self.trees.lengths[part] * times
        return out

    def by_run(self, symbol, place, times, first, last):
        """The progression of the places, from first to last, at which the letters stand with their anchor in a run.

        The run is the anchor's symbol so many times, from a place of the symbol on.
        """
        start = place - self.place
        first = max(first, start)
        last = min(last, start + (times - self.times) * self.step)
        if first > last:
            return NOTHING
        only = start
        if times > self.times:
            low, high = self.stretch_around(symbol, place, times * self.step)
            if self.low > 0:
                only = low - self.low
            elif self.high < self.length:
                only = high - self.high
            else:
                return self.in_stretch(start, max(first, low), min(last, high - self.length))
        if first <= only <= last and (only - start) % self.step == 0 and self.stands(symbol, only):
            return (only, 0, 1)
        return NOTHING

    def in_stretch(self, start, first, last):
        """The progression of the places from first to last that are whole steps from the start."""
        first += (start - first) % self.step
        if first > last:
            return NOTHING
        count = (last - first) // self.step + 1
        return (first, self.step if count > 1 else 0, count)

    def stands(self, symbol, place):
        """Whether the letters stand at a place of a symbol, within which they lie there."""
        return self.trees.common_from(self.symbol, self.start, symbol, place) >= self.length


def together(rows):
    """The progression of the numbers of some progressions, which are at equal distances."""
    if not rows:
        return NOTHING
    count = sum([row[2] for row in rows])
    first = min([row[0] for row in rows])
    last = max([row[0] + row[1] * (row[2] - 1) for row in rows])
    return (first, (last - first) // max(count - 1, 1), count)
