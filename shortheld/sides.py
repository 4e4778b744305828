"""The seams between neighbours, and the sides on which they put the symbols."""

from shortheld.pieces import Piece, is_one_symbol


def seams_of(rows):
    """How often each two symbols (left, right) are neighbours in the rows of all texts together."""
    seams = {}
    for piece in rows.pieces:
        piece.first = ends_of(piece.body[0])[0]
        piece.last = ends_of(piece.body[-1])[1]
        count_seams(seams, piece.body, piece.weight)
    for top in rows.tops:
        count_seams(seams, top.body, top.weight)
    return seams


def ends_of(item):
    """The first and the last symbol of what an item stands for."""
    if isinstance(item, int):
        return (item, item)
    piece = item if isinstance(item, Piece) else item.piece
    return (piece.first, piece.last)


def count_seams(seams, row, weight):
    """Add the seams of a row that stands so often."""
    left = None
    for item in row:
        first = last = item
        if not isinstance(item, int):
            first, last = ends_of(item)
            if not isinstance(item, Piece):
                count_seams(seams, [item.piece, *item.gap, item.piece], weight * (item.times - 1))
        if left is not None:
            seam = (left, first)
            seams[seam] = seams.get(seam, 0) + weight
        left = last


def symbols_of(rows, seams):
    """The symbols that stand in the rows of the texts, ascending: those beside a seam, and those of rows of one."""
    found = {}
    for left, right in seams:
        found[left] = True
        found[right] = True
    for top in rows.tops:
        if is_one_symbol(top.body):
            found[top.body[0]] = True
    return sorted(found)


def is_left_of(symbols, seams):
    """For each of the symbols, which ascend, whether it is on the left side, as a dict."""
    is_first = are_first(symbols, seams)
    forth = 0
    back = 0
    for (left, right), many in seams.items():
        if is_first[left] and not is_first[right]:
            forth += many
        elif is_first[right] and not is_first[left]:
            back += many
    return {symbol: is_first[symbol] == (forth >= back) for symbol in symbols}


def are_first(symbols, seams):
    """For each of the symbols, which ascend, whether it is on the first side, as a dict."""
    beside = {symbol: [] for symbol in symbols}
    for (left, right), many in seams.items():
        beside[left].append((right, many))
        beside[right].append((left, many))
    is_first = {}
    for symbol in symbols:
        lead = 0
        for other, many in beside[symbol]:
            if other in is_first:
                lead += many if is_first[other] else -many
        is_first[symbol] = lead <= 0
    return is_first
