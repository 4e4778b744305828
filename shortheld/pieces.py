"""The rows of symbols that the store of some texts shortens, round by round.

A row is a list of items. An item is the number of a symbol, a piece, or a repeat; while runs are made it can also
be (symbol, times). What stands at several places is kept as one piece, so that rows of a million million symbols
have few items.
"""

from shortheld.plain import Plain


class Piece:
    """Symbols that stand at several places: what the items of the body stand for, one behind the other."""

    def __init__(self, body):
        self.body = body
        # How often it stands in the rows of all texts together.
        self.weight = 0
        # The symbols that the last step took out of its ends: they stand around it, wherever it stands.
        self.before = []
        self.behind = []
        # The symbols at its ends.
        self.first = None
        self.last = None


class Repeat:
    """A piece so many times, twice at least, and between each two of them the symbols of the gap."""

    def __init__(self, piece, gap, times):
        self.piece = piece
        self.gap = gap
        self.times = times


class Rows:
    """The rows of some texts.

    `tops` are the rows of the texts, one for each, as pieces of which nothing is taken out. `pieces` are the
    pieces that stand in them, each one behind those that stand in it.
    """

    def __init__(self, texts):
        plain = Plain(texts)
        self.alphabet = letters_of(plain)
        self.pieces = []
        shared = {}
        for number in shared_numbers(plain):
            shared[number] = Piece(body_of(plain, number, shared, self.alphabet))
            self.pieces.append(shared[number])
        self.tops = [Piece(body_of(plain, number, shared, self.alphabet)) for number in plain.tops]
        self.weigh()

    def weigh(self):
        """Count how often each piece stands in the rows of the texts."""
        for top in self.tops:
            top.weight = 1
        for piece in self.tops + self.pieces[::-1]:
            for item in piece.body:
                if isinstance(item, Piece):
                    item.weight += piece.weight
                elif isinstance(item, Repeat):
                    item.piece.weight += piece.weight * item.times

    def is_done(self):
        """Whether no row has two symbols or more."""
        return all([not top.body or is_one_symbol(top.body) for top in self.tops])


def is_one_symbol(row):
    """Whether a row is a single symbol."""
    return len(row) == 1 and isinstance(row[0], int)


def letters_of(plain):
    """The different letters that stand in the texts of a plain telling, ascending."""
    return sorted(set("".join([row for row in plain.rows if isinstance(row, str)])))


def shared_numbers(plain):
    """The numbers of the plain rows that stand at several places, ascending."""
    uses = [0] * len(plain.rows)
    for number in plain.tops:
        if number is not None:
            uses[number] += 1
    for row in plain.rows:
        if not isinstance(row, str):
            for number, times in row:
                uses[number] += times
    return [number for number, many in enumerate(uses) if many > 1]


def body_of(plain, number, shared, alphabet):
    """The items of a plain row: shared rows as pieces, all others spelled out."""
    symbols = {letter: symbol for symbol, letter in enumerate(alphabet)}
    body = []
    waiting = [] if number is None else [(number, 1)]
    while waiting:
        part, times = waiting.pop()
        row = plain.rows[part]
        if times > 1:
            body.append(Repeat(shared[part], [], times))
        elif isinstance(row, str) and (part not in shared or len(row) == 1):
            body.extend([symbols[letter] for letter in row])
        elif part in shared:
            body.append(shared[part])
        else:
            waiting.extend(row[::-1])
    return body
