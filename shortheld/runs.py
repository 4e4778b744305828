"""The first step of a round: runs."""

class Runs:
    """The runs of a round, numbered on from the symbols that are there."""

    def __init__(self, many):
        self.many = many
        self.found = {}
        self.new = []

    def tidied(self, row):
        """The row with equal neighbours brought together as (symbol, times)."""
        out = []
        symbol = None
        times = 0
        for item in row:
            now = item
            many = 1
            if isinstance(item, tuple):
                now, many = item
            # What is no symbol never stands beside itself: there are the symbols that were taken out of it.
            if now == symbol:
                times += many
                out[-1] = (symbol, times)
            else:
                symbol = now
                times = many
                out.append(item)
        return out

    def many_before(self, row):
        """The first item of a tidied row, a symbol, can be more of what stands ahead of the row."""
        return 1

    def many_behind(self, row):
        """The last item likewise."""
        return 1

    def marked(self, row):
        """The row, the runs of which are marked already, and are taken down."""
        for item in row:
            if isinstance(item, tuple):
                self.found[item] = True
        return row

    def name_new(self):
        """Give the runs their numbers."""
        runs = sorted(self.found)
        self.new = [("run", symbol, times) for symbol, times in runs]
        self.found = {run: self.many + k for k, run in enumerate(runs)}
