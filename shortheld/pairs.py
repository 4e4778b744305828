"""The second step of a round: pairs."""


class Pairs:
    """The pairs of a round, numbered on from the symbols that are there."""

    def __init__(self, many, is_left):
        self.many = many
        self.is_left = is_left
        self.found = {}
        self.new = []

    def tidied(self, row):
        """The row as it is: no two neighbours are the same."""
        return row

    def many_before(self, row):
        """The first item becomes a pair with what stands ahead of the row if it is of the right side."""
        return 1 if isinstance(row[0], int) and not self.is_left[row[0]] else 0

    def many_behind(self, row):
        """The last item becomes a pair with what stands behind the row if it is of the left side."""
        return 1 if isinstance(row[-1], int) and self.is_left[row[-1]] else 0

    def are_pair(self, left, right):
        """Whether two neighbours in a list become a pair."""
        if not isinstance(left, int) or not isinstance(right, int):
            return False
        return self.is_left[left] and not self.is_left[right]

    def look(self, row):
        """Take down the pairs of a row."""
        for left, right in zip(row, row[1:]):
            if self.are_pair(left, right):
                self.found[(left, right)] = True

    def name_new(self):
        """Give the pairs their numbers."""
        pairs = sorted(self.found)
        self.new = [("pair", left, right) for left, right in pairs]
        self.found = {pair: self.many + k for k, pair in enumerate(pairs)}

    def rewritten(self, row):
        """The row with pairs as symbols."""
        out = []
        left = None
        for item in row:
            if left is not None and self.are_pair(left, item):
                out[-1] = self.found[(left, item)]
                left = None
            else:
                out.append(item)
                left = item
        return out
