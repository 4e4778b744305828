"""The first step of a round: runs."""

from shortheld.steps import run_of


class Runs:
    """The runs of a round, numbered on from the symbols that are there."""

    def __init__(self, many):
        self.many = many
        self.found = {}
        self.new = []

    def tidied(self, row):
        """The row with equal neighbours brought together as (symbol, times)."""
        out = []
        symbol = None
        times = 0
        for item in row:
            if isinstance(item, (int, tuple)):
                now, many = run_of(item)
                if now == symbol:
                    times += many
                    out[-1] = (symbol, times)
                else:
                    symbol = now
                    times = many
                    out.append(item)
            else:
                symbol = None
                out.append(item)
        return out

    def many_before(self, row):
        """The first item of a tidied row, a symbol, can be more of what stands ahead of the row."""
        return 1

    def many_behind(self, row):
        """The last item likewise."""
        return 1

    def look(self, row):
        """Take down the runs of a row."""
        for item in row:
            if isinstance(item, tuple):
                self.found[item] = True

    def name_new(self):
        """Give the runs their numbers."""
        runs = sorted(self.found)
        self.new = [("run", symbol, times) for symbol, times in runs]
        self.found = {run: self.many + k for k, run in enumerate(runs)}

    def rewritten(self, row):
        """The row with runs as symbols."""
        return [self.found[item] if isinstance(item, tuple) else item for item in row]
