"""Stretches of what the rules of a text make, forwards or turned round.

A view is a tuple (number, start, stop, turned): of what the rule with this number makes, the letters from start
up to, but without, stop, the last one first if it is turned. A view has at least one letter.
"""


def view_of(text, start, stop):
    """The settled view of a part of a text, a part that has letters."""
    return settled(text, (len(text.rules) - 1, start, stop, False))


def settled(text, view):
    """The same letters as a view of the earliest rule that makes them all by itself."""
    found = view
    while found is not None:
        view = found
        found = deeper(text, view)
    return view


def deeper(text, view):
    """The same letters as a view of an earlier rule, or None if no earlier rule makes them all by itself."""
    number, start, stop, turned = view
    rule = text.rules[number]
    word = rule[0]
    if word == "letters":
        return None
    if word == "part":
        return (rule[1], rule[2] + start, rule[2] + stop, turned)
    size = text.lengths[rule[1]]
    if word == "back":
        return (rule[1], size - stop, size - start, not turned)
    if word == "power":
        skipped = start // size * size
        if stop > skipped + size:
            return None
        return (rule[1], start - skipped, stop - skipped, turned)
    if stop <= size:
        return (rule[1], start, stop, turned)
    if start >= size:
        return (rule[2], start - size, stop - size, turned)
    return None


def spelled_by(text, view):
    """The letters of a settled view, if its rule tells letters, otherwise None."""
    number, start, stop, turned = view
    rule = text.rules[number]
    if rule[0] != "letters":
        return None
    letters = rule[1][start:stop]
    return letters[::-1] if turned else letters


def divided(text, view):
    """What a settled view of a join or a power consists of: a list of (settled view, times), in their order."""
    number, start, stop, turned = view
    rule = text.rules[number]
    if rule[0] == "join":
        size = text.lengths[rule[1]]
        parts = [(rule[1], start, size, 1), (rule[2], 0, stop - size, 1)]
    else:
        parts = divided_power(rule[1], text.lengths[rule[1]], start, stop)
    if turned:
        parts = parts[::-1]
    return [(settled(text, (base, low, high, turned)), times) for base, low, high, times in parts]


def divided_power(base, size, start, stop):
    """The end of one time of the base, whole times of it and the beginning of another one, where they have letters."""
    parts = []
    if start % size:
        parts.append((base, start % size, size, 1))
    whole = stop // size - (start + size - 1) // size
    if whole:
        parts.append((base, 0, size, whole))
    if stop % size:
        parts.append((base, 0, stop % size, 1))
    return parts
