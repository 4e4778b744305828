"""New texts, made of the rules of others."""

from shortheld.plain import Plain
from shortheld.text import MOST_SPELLED, Text, length_made

# Whenever the rules of a text come to another multiple of this number, it is told by fewer ones, if there are some.
MANY_RULES = 500


class Making:
    """Rules for a new text, each of which is told once."""

    def __init__(self):
        self.rules = []
        self.lengths = []
        self.numbers = {}
        self.nothing = self.number_of(("letters", ""))
        # The most rules that a text has of which rules were taken in.
        self.most_taken = 0

    def number_of(self, rule):
        """The number of a rule, a new one if it is not told yet."""
        if rule not in self.numbers:
            self.numbers[rule] = len(self.rules)
            self.rules.append(rule)
            self.lengths.append(length_made(rule, self.lengths))
        return self.numbers[rule]

    def taken_in(self, text):
        """The number of the rule that makes a text."""
        self.most_taken = max(self.most_taken, len(text.rules))
        numbers = []
        for rule in list(text.rules):
            numbers.append(self.number_of(renumbered(rule, numbers)))
        return numbers[-1]

    def part(self, number, start, stop):
        """The number of a rule that makes a part of what another one makes."""
        if start == stop:
            return self.nothing
        if stop - start == self.lengths[number]:
            return number
        return self.number_of(("part", number, start, stop))

    def turned(self, number):
        """The number of a rule that makes what another one makes, the last letter first."""
        return self.number_of(("back", number))

    def power(self, number, times):
        """The number of a rule that makes so many times what another one makes."""
        return number if times == 1 else self.number_of(("power", number, times))

    def joined(self, numbers):
        """The number of a rule that makes what some rules make, one behind the other."""
        joined = self.nothing
        for number in numbers:
            if self.lengths[joined] == 0:
                joined = number
            elif self.lengths[number]:
                joined = self.number_of(("join", joined, number))
        return joined

    def text(self, numbers):
        """The text that some rules make, one behind the other."""
        text = Text.made(self.rules[:self.joined(numbers) + 1])
        if text.length <= MOST_SPELLED:
            return Text.of_letters(text.letters(0, text.length))
        if len(text.rules) // MANY_RULES <= self.most_taken // MANY_RULES:
            return text
        plain = told_plainly(text)
        return plain if len(plain.rules) < len(text.rules) else text


def renumbered(rule, numbers):
    """The rule with other numbers for the rules that it uses."""
    word = rule[0]
    if word == "letters":
        return rule
    if word == "join":
        return (word, numbers[rule[1]], numbers[rule[2]])
    return (word, numbers[rule[1]], *rule[2:])


def told_plainly(text):
    """A text with letters by letters, joins and powers alone."""
    plain = Plain([text])
    making = Making()
    numbers = []
    for row in plain.rows:
        if isinstance(row, str):
            numbers.append(making.number_of(("letters", row)))
        else:
            numbers.append(making.joined([making.power(numbers[part], times) for part, times in row]))
    return Text.made(making.rules[:numbers[plain.tops[0]] + 1])
