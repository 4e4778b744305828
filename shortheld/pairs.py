"""The second step of a round: pairs."""


class Pairs:
    """The pairs of a round, numbered on from the symbols that are there."""

    def __init__(self, many, is_left):
        self.many = many
        self.is_left = is_left
        self.found = {}
        self.new = []

    def tidied(self, row):
        """The row as it is: no two neighbours are the same."""
        return row

    def many_before(self, row):
        """The first item becomes a pair with what stands ahead of the row if it is of the right side."""
        return 1 if isinstance(row[0], int) and not self.is_left[row[0]] else 0

    def many_behind(self, row):
        """The last item becomes a pair with what stands behind the row if it is of the left side."""
        return 1 if isinstance(row[-1], int) and self.is_left[row[-1]] else 0

    def marked(self, row):
        """The row with pairs as (left, right), which are taken down."""
        out = []
        left = None
        for item in row:
            if not isinstance(item, int):
                left = None
                out.append(item)
            elif self.is_left[item]:
                left = item
                out.append(item)
            elif left is None:
                out.append(item)
            else:
                pair = (left, item)
                self.found[pair] = True
                out[-1] = pair
                left = None
        return out

    def name_new(self):
        """Give the pairs their numbers."""
        pairs = sorted(self.found)
        self.new = [("pair", left, right) for left, right in pairs]
        self.found = {pair: self.many + k for k, pair in enumerate(pairs)}
