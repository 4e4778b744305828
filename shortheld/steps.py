"""What the two steps of a round, runs and pairs, have in common.

A step makes new symbols of neighbours. First it takes out of each piece the symbols at its ends that can have part
in a new symbol across these ends, and puts them around the piece wherever it stands. Then all neighbours that become
one symbol stand side by side in one list, and are rewritten there.

A step is an object with these methods: `tidied(row)`, the row with equal neighbours brought together, where the
step wants this; `many_before(row)` and `many_behind(row)`, how many items of a row are to be taken out of its
beginning and of its end; `marked(row)`, the row with tuples in place of what becomes a new symbol, which are taken
down; and `name_new()`, which gives them their numbers, as the dict `found`, when all rows are marked.
"""

from shortheld.pieces import Piece, Repeat


class Kept:
    """What a step keeps: the pieces in which something is left, and all repeats."""

    def __init__(self):
        self.alive = []
        self.repeats = []


def take_step(rows, step):
    """Let a step make its new symbols in all rows."""
    repeats = take_out(rows, step)
    pieces = rows.pieces + rows.tops
    for piece in pieces:
        piece.body = step.marked(piece.body)
    for repeat in repeats:
        repeat.gap = step.marked(repeat.gap)
    step.name_new()
    for piece in pieces:
        piece.body = named(piece.body, step.found)
    for repeat in repeats:
        repeat.gap = named(repeat.gap, step.found)


def named(row, numbers):
    """The row with numbers for what is marked."""
    return [numbers[item] if isinstance(item, tuple) else item for item in row]


def take_out(rows, step):
    """Take out of all pieces what becomes one symbol with something outside of them. The list of all repeats."""
    kept = Kept()
    for piece in rows.pieces:
        row = widened(piece, step, kept)
        start = step.many_before(row)
        stop = len(row) - step.many_behind(row)
        if start < stop:
            piece.before = row[:start]
            piece.body = row[start:stop]
            piece.behind = row[stop:]
            kept.alive.append(piece)
        else:
            piece.before = row
            piece.body = []
            piece.behind = []
    for top in rows.tops:
        top.body = widened(top, step, kept)
    rows.pieces = kept.alive
    return kept.repeats


def widened(piece, step, kept):
    """The items of a piece, with what was taken out of the pieces in it."""
    row = []
    for item in piece.body:
        if isinstance(item, int):
            row.append(item)
        elif isinstance(item, Repeat):
            row.extend(widened_repeat(item, piece.weight, step, kept))
        else:
            row.extend(item.before)
            if item.body:
                row.append(item)
                row.extend(item.behind)
    return step.tidied(row)


def widened_repeat(repeat, weight, step, kept):
    """The items of a repeat that stands so often, with what was taken out of its piece."""
    piece = repeat.piece
    if piece.body:
        gap = step.tidied(piece.behind + repeat.gap + piece.before)
        return [*piece.before, kept_repeat(piece, gap, repeat.times, kept), *piece.behind]
    block = step.tidied(repeat.gap + piece.before)
    return piece.before + repeated(block, repeat.times - 1, weight, step, kept)


def kept_repeat(piece, gap, times, kept):
    """A new repeat."""
    repeat = Repeat(piece, gap, times)
    kept.repeats.append(repeat)
    return repeat


def repeated(block, times, weight, step, kept):
    """The items of so many times a list of symbols, which is tidied, where this stands so often.

    The list becomes a piece, but for its ends, so that nothing at an end of the piece has part in a new symbol.
    """
    if times == 1:
        return block
    if len(block) == 1:
        symbol, many = run_of(block[0])
        return [(symbol, many * times)]
    start = step.many_before(block)
    stop = len(block) - step.many_behind(block)
    before = block[:start]
    behind = block[stop:]
    gap = step.tidied(behind + before)
    if start < stop:
        return before + piece_repeated(block[start:stop], gap, times, weight, kept) + behind
    return before + piece_repeated(gap, [], times - 1, weight, kept) + behind


def piece_repeated(body, gap, times, weight, kept):
    """The items of a new piece with this body so many times, with a gap, where this stands so often."""
    if times == 1:
        return body
    piece = Piece(body)
    piece.weight = weight * times
    kept.alive.append(piece)
    return [kept_repeat(piece, gap, times, kept)]


def run_of(item):
    """The symbol and how many times it stands there, of an item that is no piece and no repeat."""
    return (item, 1) if isinstance(item, int) else item
