"""The symbols of a store as trees, and the letters that are read from them.

The parts of a symbol are a tuple of (symbol, times), what it consists of, one behind the other; a letter has none.
A line is a list of (symbol, times): letters that are still to be read, in one of the two directions. What is read
next stands at its end, so that a symbol gives its place to its parts, the one that is read last first.
"""

from shortheld.store import Store


class Trees:
    """The store of some texts, by its symbols."""

    def __init__(self, texts):
        store = Store(texts)
        self.rounds = store.rounds
        self.roots = store.roots
        self.lengths = store.lengths
        self.levels = levels_of(store.ends)
        self.parts = [parts_of(symbol) for symbol in store.symbols]
        self.turned_parts = [parts[::-1] for parts in self.parts]

    def line_from(self, symbol, start):
        """The line of the letters of a symbol from a place on, read forwards."""
        return line_of(self.turned_parts, self.lengths, symbol, start)

    def line_to(self, symbol, stop):
        """The line of the letters of a symbol ahead of a place, read backwards."""
        return line_of(self.parts, self.lengths, symbol, self.lengths[symbol] - stop)

    def read_forwards(self, first, second):
        """Read what two lines have in common. How many letters this is."""
        return read_common(self.turned_parts, self.lengths, first, second)

    def common_from(self, symbol, start, other, at):
        """The common beginning of what two symbols stand for, from two places on."""
        return self.read_forwards(self.line_from(symbol, start), self.line_from(other, at))

    def common_to(self, symbol, stop, other, at):
        """The common ending of what two symbols stand for, up to two places."""
        return read_common(self.parts, self.lengths, self.line_to(symbol, stop), self.line_to(other, at))

    def beginning_of(self, root, other):
        """The common beginning of the texts of two roots, which are None for empty texts."""
        if root is None or other is None:
            return 0
        return self.common_from(root, 0, other, 0)

    def difference(self, root, other):
        """The first place at which the texts of two roots differ, None if they are the same."""
        return None if root == other else self.beginning_of(root, other)

    def order(self, root, other):
        """-1 if the text of a root comes ahead of that of another one, 1 if it comes behind it, 0 if it is the same."""
        if root == other:
            return 0
        if root is None or other is None:
            return -1 if root is None else 1
        line = self.line_from(root, 0)
        other_line = self.line_from(other, 0)
        self.read_forwards(line, other_line)
        if not line or not other_line:
            return 1 if line else -1
        # Letters are numbered in ascending order.
        return -1 if line[-1][0] < other_line[-1][0] else 1

    def node_at(self, symbol, place, level):
        """What covers a place of a symbol in its row behind so many steps: its symbol, and where it starts.

        A round has two steps, runs and pairs.
        """
        start = 0
        while self.levels[symbol] > level:
            for part, times in self.parts[symbol]:
                size = self.lengths[part]
                if place < start + size * times:
                    break
                start += size * times
            start += (place - start) // size * size
            symbol = part
        return (symbol, start)


def levels_of(ends):
    """By how many steps each symbol of a store is made: 0 for a letter, an odd number for a run."""
    levels = []
    for level, end in enumerate(ends):
        levels.extend([level] * (end - len(levels)))
    return levels


def parts_of(symbol):
    """The parts of a symbol of a store."""
    if symbol[0] == "letter":
        return ()
    if symbol[0] == "run":
        return ((symbol[1], symbol[2]),)
    return ((symbol[1], 1), (symbol[2], 1))


def line_of(parts, lengths, symbol, skipped):
    """The line of a symbol behind so many letters. The parts of each symbol are listed from what is read last."""
    line = [(symbol, 1)]
    while skipped:
        now, times = line.pop()
        size = lengths[now]
        whole = min(skipped // size, times)
        skipped -= whole * size
        if whole < times and skipped:
            unfold(parts, line, now, times - whole)
        elif whole < times:
            line.append((now, times - whole))
    return line


def unfold(parts, line, symbol, times):
    """Put so many times a symbol at the end of a line, the one that is read next by its parts."""
    if times > 1:
        line.append((symbol, times - 1))
    line.extend(parts[symbol])


def read_common(parts, lengths, first, second):
    """Read what two lines have in common. How many letters this is.

    Unless a line is read to its end, both go on with a letter then.
    """
    many = 0
    while first and second:
        symbol, times = first.pop()
        other, more = second.pop()
        if symbol == other:
            both = min(times, more)
            many += both * lengths[symbol]
            if times > both:
                first.append((symbol, times - both))
            if more > both:
                second.append((other, more - both))
        elif lengths[symbol] >= lengths[other] and parts[symbol]:
            unfold(parts, first, symbol, times)
            second.append((other, more))
        else:
            first.append((symbol, times))
            if not parts[other]:
                second.append((other, more))
                return many
            unfold(parts, second, other, more)
    return many
