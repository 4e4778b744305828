"""Texts that are told by rules."""

from shortheld.errors import BadRules, NoPart, NoPlace, TooLong
from shortheld.views import divided, spelled_by, view_of

LETTERS = " !\"#$&'()*+,-./0123456789:;<=>?@ABCDEFGHIJKLMNOPQRSTUVWXYZ[\\]^_`abcdefghijklmnopqrstuvwxyz{|}~"

MOST_RULES = 60
MOST_TOLD = 64
MOST_TIMES = 10 ** 12
MOST_LETTERS = 10 ** 12
MOST_SPELLED = 1000

SIZES = {"letters": 2, "join": 3, "power": 3, "part": 4, "back": 2}


def is_whole(value):
    """Whether a value is a whole number."""
    return isinstance(value, int) and not isinstance(value, bool)


def has_word(rule):
    """Whether a rule begins with one of the five words."""
    if not isinstance(rule, (tuple, list)) or not rule:
        return False
    return isinstance(rule[0], str) and rule[0] in SIZES


def are_told(letters):
    """Whether one rule can tell these letters."""
    if not isinstance(letters, str) or len(letters) > MOST_TOLD:
        return False
    return all([letter in LETTERS for letter in letters])


def is_part(start, stop, length):
    """Whether so many letters have a part from start to stop."""
    return 0 <= start <= stop <= length


def length_made(rule, lengths):
    """How many letters a right rule makes, behind rules that make so many letters."""
    word = rule[0]
    if word == "letters":
        return len(rule[1])
    if word == "join":
        return lengths[rule[1]] + lengths[rule[2]]
    if word == "power":
        return lengths[rule[1]] * rule[2]
    if word == "part":
        return rule[3] - rule[2]
    return lengths[rule[1]]


def fault_of(rule, lengths):
    """The first reason why a rule is wrong behind rules that make so many letters, or None."""
    if not has_word(rule):
        return "word"
    word = rule[0]
    if len(rule) != SIZES[word]:
        return "length"
    if word == "letters":
        return None if are_told(rule[1]) else "letters"
    used = rule[1:3] if word == "join" else rule[1:2]
    if not all([is_whole(number) and 0 <= number < len(lengths) for number in used]):
        return "rule"
    if not all([is_whole(number) for number in rule[2:]]):
        return word
    if word == "power" and not 0 <= rule[2] <= MOST_TIMES:
        return "power"
    if word == "part" and not is_part(rule[2], rule[3], lengths[rule[1]]):
        return "part"
    return "large" if length_made(rule, lengths) > MOST_LETTERS else None


def lengths_checked(rules):
    """The tuple of the numbers of letters that rules make. Raises BadRules if they are not those of a text."""
    if not 1 <= len(rules) <= MOST_RULES:
        raise BadRules(None, "count")
    lengths = []
    for number, rule in enumerate(rules):
        reason = fault_of(rule, lengths)
        if reason is not None:
            raise BadRules(number, reason)
        lengths.append(length_made(rule, lengths))
    return tuple(lengths)


def lengths_unchecked(rules):
    """The tuple of the numbers of letters that right rules make, however many they are."""
    lengths = []
    for rule in rules:
        lengths.append(length_made(rule, lengths))
    return tuple(lengths)


def copied(rules):
    """The rules as a tuple of tuples."""
    return tuple([tuple(rule) for rule in rules])


def rules_of(letters):
    """Rules that make the letters of a string."""
    rules = [("letters", letters[:MOST_TOLD])]
    for start in range(MOST_TOLD, len(letters), MOST_TOLD):
        rules.append(("letters", letters[start:start + MOST_TOLD]))
        rules.append(("join", len(rules) - 2, len(rules) - 1))
    return rules


def spelled(text, start, stop):
    """The letters of a part of a text, a string."""
    if start == stop:
        return ""
    waiting = [view_of(text, start, stop)]
    pieces = []
    while waiting:
        view = waiting.pop()
        letters = spelled_by(text, view)
        if letters is not None:
            pieces.append(letters)
        else:
            for part, times in reversed(divided(text, view)):
                waiting.extend([part] * times)
    return "".join(pieces)


class Text:
    """A text, told by its rules."""

    def __init__(self, rules):
        self.lengths = lengths_checked(rules)
        self.length = self.lengths[-1]
        self.rules = copied(rules)

    @classmethod
    def of_letters(cls, letters):
        """The text with the letters of a string."""
        rules = rules_of(letters)
        if len(rules) > MOST_RULES:
            return cls.made(rules)
        return cls(rules)

    @classmethod
    def made(cls, rules):
        """The text of one or more rules that are right, however many they are."""
        text = cls((("letters", ""),))
        text.rules = copied(rules)
        text.lengths = lengths_unchecked(text.rules)
        text.length = text.lengths[-1]
        return text

    def letter(self, place):
        """The letter at a place."""
        if not 0 <= place < self.length:
            raise NoPlace(place)
        return spelled(self, place, place + 1)

    def letters(self, start, stop):
        """The letters of a part that has at most 1000 of them."""
        if not is_part(start, stop, self.length):
            raise NoPart(start, stop)
        if stop - start > MOST_SPELLED:
            raise TooLong("more than 1000 letters at once")
        return spelled(self, start, stop)
