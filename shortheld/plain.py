"""Texts told by letters, joins and powers alone.

A row of a plain telling is a string of letters, or a tuple of (number, times): one behind the other, the earlier
row with this number so many times. No row is empty. Texts share the rows that they both need.
"""

from shortheld.views import divided, spelled_by, view_of


class Plain:
    """The rows that make some texts, each row told once."""

    def __init__(self, texts):
        self.rows = []
        self.numbers = {}
        self.tops = [self.tell(text) for text in texts]

    def tell(self, text):
        """The number of the row that makes a text, None for an empty text."""
        if text.length == 0:
            return None
        top = view_of(text, 0, text.length)
        parts_of = {}
        known = {}
        waiting = [top]
        while waiting:
            view = waiting[-1]
            if view not in parts_of:
                parts_of[view] = [] if spelled_by(text, view) else divided(text, view)
                waiting.extend([part for part, _ in parts_of[view] if part not in known])
            else:
                waiting.pop()
                parts = tuple([(known[part], times) for part, times in parts_of[view]])
                known[view] = self.number_of(parts or spelled_by(text, view))
        return known[top]

    def number_of(self, row):
        """The number of a row, a new one if it is not told yet."""
        if row not in self.numbers:
            self.numbers[row] = len(self.rows)
            self.rows.append(row)
        return self.numbers[row]
