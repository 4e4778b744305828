"""Cuts of texts into letters and copies."""

from shortheld.errors import HeldError
from shortheld.text import spelled
from shortheld.trees import Trees

MOST_CUT = 4096


class TooManyLetters(HeldError):
    """The texts have more letters together than are cut."""


def is_cut(texts, cut):
    """Whether rows of phrases are a cut of the texts."""
    return is_cut_in(Trees(texts), texts, cut)


def is_cut_in(trees, texts, cut):
    """Whether rows of phrases are a cut of the texts of a store."""
    if len(cut) != len(texts):
        return False
    return all([are_spelled(trees, texts, number, row) for number, row in enumerate(cut)])


def are_spelled(trees, texts, number, row):
    """Whether a row of phrases spells the text with a number."""
    place = 0
    for phrase in row:
        many = many_spelled(trees, texts, number, place, phrase)
        if many == 0:
            return False
        place += many
    return place == texts[number].length


def many_spelled(trees, texts, number, place, phrase):
    """How many letters a phrase spells from a place of the text with a number on, 0 if they are not those."""
    text = texts[number]
    if place == text.length:
        return 0
    if phrase[0] == "letter":
        return 1 if text.letter(place) == phrase[1] else 0
    _, copied, start, many = phrase
    if many < 1 or not is_source(texts, number, place, phrase):
        return 0
    return many if trees.common_from(trees.roots[number], place, trees.roots[copied], start) >= many else 0


def is_source(texts, number, place, phrase):
    """Whether the letters that a phrase copies are spelled already, or are spelled by it itself."""
    _, copied, start, many = phrase
    if copied == number:
        return 0 <= start < place
    return 0 <= copied < number and 0 <= start <= texts[copied].length - many


def store_bound(texts, cut):
    """The bound of a cut of the texts, None if it is none."""
    trees = Trees(texts)
    if not is_cut_in(trees, texts, cut):
        return None
    words = [phrase[0] for row in cut for phrase in row]
    return 2 * words.count("letter") + 6 * words.count("copy") * trees.rounds


def shortest_cut(texts):
    """The shortest cut of texts that have not too many letters."""
    if sum([text.length for text in texts]) > MOST_CUT:
        raise TooManyLetters("more than 4096 letters together")
    strings = [spelled(text, 0, text.length) for text in texts]
    # The line feed is no letter, so that no copy goes across the end of a text.
    whole = "\n".join(strings)
    places = []
    rows = []
    for number, string in enumerate(strings):
        start = len(places)
        places.extend([(number, at) for at in range(len(string) + 1)])
        rows.append(row_of(whole, start, start + len(string), places))
    return tuple(rows)


def row_of(whole, start, stop, places):
    """The phrases of the text that stands from start up to stop. The places tell texts and places in them."""
    row = []
    while start < stop:
        first, many = longest_copy(whole, start, stop)
        if many > 1:
            row.append(("copy", *places[first], many))
        else:
            row.append(("letter", whole[start]))
        start += many
    return tuple(row)


def longest_copy(whole, place, stop):
    """From where on the longest copy is taken that spells what is left up to stop, and its length, 1 if there is none.

    Of several the first one: each longer beginning of what is left is looked for from there on where the shorter
    one stands first.
    """
    first = 0
    many = 1
    while place + many < stop:
        # It can go on into what it spells itself, but begins ahead of that.
        found = whole.find(whole[place:place + many + 1], first, place + many)
        if found < 0:
            break
        first = found
        many += 1
        while place + many < stop and whole[first + many] == whole[place + many]:
            many += 1
    return (first, many)
