"""Texts in their order."""

from shortheld.common import common_from, compare
from shortheld.trees import Trees


def ordering(texts):
    """The numbers of texts in their order, and the common beginnings of each two neighbours in it."""
    trees = Trees(texts)
    numbers = numbers_in_order(trees)
    roots = [trees.roots[number] for number in numbers]
    beside = [trees.beginning_of(root, other) for root, other in zip(roots, roots[1:])]
    return (tuple(numbers), tuple(beside))


def numbers_in_order(trees):
    """The numbers of the texts of a store, in their order."""
    numbers = []
    for number, root in enumerate(trees.roots):
        low = 0
        high = len(numbers)
        while low < high:
            middle = (low + high) // 2
            if trees.order(trees.roots[numbers[middle]], root) > 0:
                high = middle
            else:
                low = middle + 1
        numbers = numbers[:low] + [number] + numbers[low:]
    return numbers


def beginnings(texts):
    """How many different texts that are not empty are beginnings of at least one of the texts."""
    numbers, beside = ordering(texts)
    # Of the beginnings of a text, those that are common with the text ahead of it are there already.
    return sum([texts[number].length for number in numbers]) - sum(beside)


def begins_with(text, pattern):
    """Whether a text begins with a pattern."""
    return common_from(text, 0, pattern, 0) == pattern.length


def beginners(texts, pattern):
    """From which index up to which one the texts begin with a pattern."""
    trees = Trees([pattern, *texts])
    root = trees.roots[0]
    ahead = 0
    many = 0
    for other in trees.roots[1:]:
        if trees.beginning_of(root, other) == pattern.length:
            many += 1
        elif trees.order(other, root) < 0:
            ahead += 1
    return (ahead, ahead + many)


class Shelf:
    """Texts, no two of which are the same, kept in their order."""

    def __init__(self):
        self.kept = []

    def __len__(self):
        return len(self.kept)

    def texts(self):
        """The tuple of the texts, in their order."""
        return tuple(self.kept)

    def where(self, text):
        """How many of the texts come ahead of a text, and whether one that is the same stands behind them."""
        low = 0
        high = len(self.kept)
        while low < high:
            middle = (low + high) // 2
            order = compare(self.kept[middle], text)
            if order == 0:
                return (middle, True)
            if order < 0:
                low = middle + 1
            else:
                high = middle
        return (low, False)

    def place(self, text):
        """How many of the texts come ahead of a text."""
        return self.where(text)[0]

    def holds(self, text):
        """Whether a text that is the same is kept."""
        return self.where(text)[1]

    def put(self, text):
        """Keep a text. False if one that is the same is kept already."""
        place, is_kept = self.where(text)
        if is_kept:
            return False
        self.kept = self.kept[:place] + [text] + self.kept[place:]
        return True

    def drop(self, text):
        """Take out the text that is the same. False if there is none."""
        place, is_kept = self.where(text)
        if not is_kept:
            return False
        self.kept = self.kept[:place] + self.kept[place + 1:]
        return True

    def between(self, first, second):
        """The tuple of the texts from the first one on that come ahead of the second one, in their order."""
        return tuple(self.kept[self.place(first):self.place(second)])
