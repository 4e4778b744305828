"""The store of some texts: symbols that depend on the letters of the texts alone."""

from shortheld.pairs import Pairs
from shortheld.pieces import Rows
from shortheld.runs import Runs
from shortheld.sides import is_left_of, seams_of, symbols_of
from shortheld.steps import take_step


def runs_made(rows, many):
    """Make the runs of a round in all rows. The new symbols, a list, numbered on from so many."""
    step = Runs(many)
    take_step(rows, step)
    return step.new


def pairs_made(rows, many):
    """Make the pairs of a round in all rows. The new symbols, a list, numbered on from so many."""
    seams = seams_of(rows)
    step = Pairs(many, is_left_of(symbols_of(rows, seams), seams))
    take_step(rows, step)
    return step.new


def root_of(row):
    """The symbol of a row that has one, None if it has none."""
    return row[0] if row else None


def symbol_lengths(symbols):
    """The tuple of the numbers of letters for which the symbols of a store stand."""
    lengths = []
    for word, symbol, *more in symbols:
        if word == "letter":
            lengths.append(1)
        elif word == "run":
            lengths.append(lengths[symbol] * more[0])
        else:
            lengths.append(lengths[symbol] + lengths[more[0]])
    return tuple(lengths)


class Store:
    """The store of a list or tuple of texts."""

    def __init__(self, texts):
        rows = Rows(texts)
        symbols = [("letter", letter) for letter in rows.alphabet]
        ends = [len(symbols)]
        while not rows.is_done():
            symbols.extend(runs_made(rows, len(symbols)))
            ends.append(len(symbols))
            symbols.extend(pairs_made(rows, len(symbols)))
            ends.append(len(symbols))
        self.rounds = len(ends) // 2
        self.symbols = tuple(symbols)
        self.roots = tuple([root_of(top.body) for top in rows.tops])
        self.lengths = symbol_lengths(symbols)
        self.ends = tuple(ends)


def store_of(texts):
    """The tuple (rounds, symbols, roots) of the store of a list or tuple of texts."""
    store = Store(texts)
    return (store.rounds, store.symbols, store.roots)
