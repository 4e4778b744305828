"""Changes of texts, each of which makes another text."""

from shortheld.common import check_part, check_place
from shortheld.errors import BadTimes, HeldError, NoPlace, TooLarge
from shortheld.making import Making
from shortheld.spelling import Spelling
from shortheld.text import MOST_LETTERS, MOST_TIMES, are_told, is_whole


class BadPhrase(HeldError):
    """A phrase is wrong: its number."""

    def __init__(self, number):
        super().__init__(f"phrase {number} is wrong")
        self.number = number


def check_size(length):
    """Raise TooLarge for more letters than a text may have."""
    if length > MOST_LETTERS:
        raise TooLarge("more than 10 ** 12 letters")


def part_of(text, start, stop):
    """The part of a text."""
    check_part(text, start, stop)
    making = Making()
    return making.text([making.part(making.taken_in(text), start, stop)])


def remove_part(text, start, stop):
    """The text without a part."""
    check_part(text, start, stop)
    making = Making()
    return made_around(making, making.taken_in(text), start, stop, making.nothing)


def replace_part(text, start, stop, other):
    """The text with another one in place of a part."""
    check_part(text, start, stop)
    check_size(text.length - (stop - start) + other.length)
    making = Making()
    return made_around(making, making.taken_in(text), start, stop, making.taken_in(other))


def insert_at(text, place, other):
    """The text with another one put in at a place."""
    check_place(text, place)
    return replace_part(text, place, place, other)


def move_part(text, start, stop, place):
    """The text with a part taken out, and put in at a place of what is left."""
    check_part(text, start, stop)
    if not 0 <= place <= text.length - (stop - start):
        raise NoPlace(place)
    making = Making()
    number = making.taken_in(text)
    rest = making.joined([making.part(number, 0, start), making.part(number, stop, text.length)])
    return made_around(making, rest, place, place, making.part(number, start, stop))


def turn_part(text, start, stop):
    """The text with a part turned round."""
    check_part(text, start, stop)
    making = Making()
    number = making.taken_in(text)
    return made_around(making, number, start, stop, making.turned(making.part(number, start, stop)))


def repeat_part(text, start, stop, times):
    """The text with a part so many times."""
    check_part(text, start, stop)
    if not 0 <= times <= MOST_TIMES:
        raise BadTimes("not from 0 to 10 ** 12 times")
    check_size(text.length + (stop - start) * (times - 1))
    making = Making()
    number = making.taken_in(text)
    return made_around(making, number, start, stop, making.power(making.part(number, start, stop), times))


def made_around(making, number, start, stop, middle):
    """The text that a rule makes, with what another rule makes in place of a part."""
    head = making.part(number, 0, start)
    tail = making.part(number, stop, making.lengths[number])
    return making.text([head, middle, tail])


def apply_phrases(text, phrases):
    """The text that phrases spell beside a text."""
    check_size(size_spelled(text, phrases))
    making = Making()
    spelling = Spelling(making, text)
    for phrase in phrases:
        spelling.spell(phrase)
    return making.text([spelling.spelled(0, spelling.size)])


def size_spelled(text, phrases):
    """How many letters phrases spell beside a text. Raises BadPhrase for the first wrong one."""
    size = 0
    for number, phrase in enumerate(phrases):
        many = many_spelled(text, size, phrase)
        if many == 0:
            raise BadPhrase(number)
        size += many
    return size


def many_spelled(text, size, phrase):
    """How many letters a phrase spells beside a text, behind so many spelled ones, 0 if it is wrong."""
    if not isinstance(phrase, (tuple, list)) or not phrase:
        return 0
    if phrase[0] == "letter":
        return 1 if len(phrase) == 2 and are_told(phrase[1]) and len(phrase[1]) == 1 else 0
    if phrase[0] != "copy" or len(phrase) != 4 or not all([is_whole(number) for number in phrase[1:]]):
        return 0
    _, copied, start, many = phrase
    if start < 0 or many < 1:
        return 0
    if copied == 0:
        return many if start <= text.length - many else 0
    return many if copied == 1 and start < size else 0
