"""The seams between neighbours, and the sides on which they put the symbols."""

from shortheld.pieces import Piece


def seams_of(rows):
    """How often each two symbols (left, right) are neighbours in the rows of all texts together."""
    seams = {}
    for piece in rows.pieces:
        piece.first = ends_of(piece.body[0])[0]
        piece.last = ends_of(piece.body[-1])[1]
        count_seams(seams, piece.body, piece.weight)
    for top in rows.tops:
        count_seams(seams, top.body, top.weight)
    return seams


def ends_of(item):
    """The first and the last symbol of what an item stands for."""
    if isinstance(item, int):
        return (item, item)
    if isinstance(item, Piece):
        return (item.first, item.last)
    return (item.piece.first, item.piece.last)


def count_seams(seams, row, weight):
    """Add the seams of a row that stands so often."""
    left = None
    for item in row:
        first, last = ends_of(item)
        if left is not None:
            seams[(left, first)] = seams.get((left, first), 0) + weight
        left = last
        if not isinstance(item, (int, Piece)):
            count_seams(seams, [item.piece, *item.gap, item.piece], weight * (item.times - 1))


def symbols_of(rows):
    """The symbols that stand in the rows of the texts, ascending."""
    found = {}
    for piece in rows.pieces + rows.tops:
        for item in piece.body:
            if isinstance(item, int):
                found[item] = True
            elif not isinstance(item, Piece):
                for symbol in item.gap:
                    found[symbol] = True
    return sorted(found)


def is_left_of(symbols, seams):
    """For each of the symbols, which ascend, whether it is on the left side, as a dict."""
    is_first = are_first(symbols, seams)
    forth = 0
    back = 0
    for (left, right), many in seams.items():
        if is_first[left] and not is_first[right]:
            forth += many
        elif is_first[right] and not is_first[left]:
            back += many
    return {symbol: is_first[symbol] == (forth >= back) for symbol in symbols}


def are_first(symbols, seams):
    """For each of the symbols, which ascend, whether it is on the first side, as a dict."""
    beside = {symbol: [] for symbol in symbols}
    for (left, right), many in seams.items():
        beside[left].append((right, many))
        beside[right].append((left, many))
    is_first = {}
    for symbol in symbols:
        lead = 0
        for other, many in beside[symbol]:
            if other in is_first:
                lead += many if is_first[other] else -many
        is_first[symbol] = lead <= 0
    return is_first
