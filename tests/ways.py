"""Texts of strings, by rules of many kinds."""

from shortheld.text import Text
from tests.great import retold
from tests.helpers import all_made, random_rules, rng_of


def letters(string):
    return Text.of_letters(string)


def string_of(text):
    """The letters of a text that has not too many of them."""
    return "".join([text.letters(start, min(start + 1000, text.length)) for start in range(0, text.length, 1000)])


def by_rules(string):
    """The text of a string by rules of all kinds."""
    size, half = len(string), len(string) // 2
    rules = [("letters", string[::-1] + "~"), ("power", 0, 3), ("back", 1), ("part", 2, 1, 1 + half),
             ("part", 2, size + 2 + half, 2 * size + 2), ("join", 3, 4)]
    assert all_made(rules)[-1] == string
    return Text(rules)


def ways(string):
    """The texts of a string, by several ways of rules."""
    return [letters(string), by_rules(string), Text.made(retold([("letters", string)]))]


def short_strings(alphabet, longest):
    """All strings with at most so many letters."""
    strings = [""]
    for string in strings:
        if len(string) < longest:
            strings += [string + letter for letter in alphabet]
    return strings


def random_text(seed, largest, alphabet="abc", most=25):
    """A small text by random rules of all kinds, and its string."""
    rng = rng_of(seed)
    rules = random_rules(rng, rng.randint(1, most), largest, alphabet)
    return Text(rules), all_made(rules)[-1]


def repeated(seed, most=60):
    """A string that is a short word again and again, from some letter of it on, and perhaps with another end."""
    rng = rng_of(seed)
    word = "".join([rng.choice("ab") for _ in range(rng.randint(1, 6))])
    start, size = rng.randint(0, len(word)), rng.randint(0, most)
    return (word * most)[start:start + size] + rng.choice(("", "", "a", "ba"))
