"""Rules of great texts, other rules for the same letters, and sums that tell whether parts of them are the same."""

from tests.helpers import rng_of, size_made

MANY = 10 ** 10
MOST = 10 ** 12


def retold(rules):
    """Other rules that make the same letters: all that a rule makes is told backwards, and cut in two."""
    out = []
    at = []
    sizes = []
    for rule in rules:
        word, numbers = rule[0], [at[number] for number in rule[1:3]] if rule[0] == "join" else []
        if word == "letters":
            out.append((word, rule[1][::-1]))
        elif word == "join":
            out.append((word, numbers[1], numbers[0]))
        elif word == "power":
            out += power_retold(at[rule[1]], rule[2], len(out))
        elif word == "part":
            size = sizes[rule[1]]
            out.append((word, at[rule[1]], size - rule[3], size - rule[2]))
        else:
            out += [("back", at[rule[1]])]
        sizes.append(size_made(rule, sizes))
        cut = sizes[-1] // 3
        last = len(out) - 1
        out += [("part", last, 0, cut), ("part", last, cut, sizes[-1]), ("join", last + 1, last + 2)]
        at.append(len(out) - 1)
    return out + [("back", at[-1])]


def power_retold(base, times, number):
    """A power as a power of one time fewer and the base, behind so many rules."""
    if times == 0:
        return [("power", base, 0)]
    return [("power", base, times - 1), ("join", base, number)]


def great_rules(rng, words=("join", "power", "part", "back")):
    """Rules of a great text, made of these words and of letters."""
    rules = [("letters", "".join([rng.choice("abc") for _ in range(rng.randint(1, 9))])) for _ in range(3)]
    sizes = [len(rule[1]) for rule in rules]
    for _ in range(200):
        word = rng.choice(words)
        first, second = [rng.randrange(max(0, len(rules) - 4), len(rules)) for _ in range(2)]
        rule = {"join": (word, first, second), "power": (word, first, rng.choice((2, 3, 7, 1000, MANY))),
                "part": (word, first, rng.randint(0, sizes[first] // 3), sizes[first] - rng.randint(0, sizes[first] // 3)),
                "back": (word, first)}[word]
        size = size_made(rule, sizes)
        if size <= MOST and len(rules) < 25:
            rules.append(rule)
            sizes.append(size)
    return rules


def hard_rules(rng, many=60, largest=MOST):
    """So many rules that join and cut long texts of many different words again and again."""
    alphabet = rng.choice(("ab", "abc", "abcdefgh"))
    rules = [("letters", "".join([rng.choice(alphabet) for _ in range(rng.choice((8, 64)))]))
             for _ in range(rng.randint(1, many // 4))]
    sizes = [len(rule[1]) for rule in rules]
    while len(rules) < many:
        word = rng.choice(("join", "join", "join", "part", "back", "power"))
        last = len(rules) - 1 - rng.choice((0, 0, 0, 1, 2, 4)) % len(rules)
        other = rng.randrange(max(0, len(rules) - 6), len(rules))
        cuts = [rng.randint(0, sizes[last] // 4) for _ in range(2)]
        rule = {"join": (word, *rng.choice(((last, other), (other, last)))), "back": (word, last),
                "part": (word, last, cuts[0], sizes[last] - cuts[1]),
                "power": (word, last, rng.choice((2, 3, 5, 17)))}[word]
        size = size_made(rule, sizes)
        if size > largest:
            rule, size = ("part", last, sizes[last] // 3, sizes[last]), sizes[last] - sizes[last] // 3
        rules.append(rule)
        sizes.append(size)
    return rules


def words_joined(many):
    """Rules of the words of which each one is made of the last two ones, the last one first."""
    return [("letters", "b"), ("letters", "a")] + [("join", number + 1, number) for number in range(many)]


def swapped(many):
    """Rules of a word that is doubled so many times, each time with its two letters changed one for the other."""
    rules = [("letters", "a"), ("letters", "b")]
    for _ in range(many):
        last = len(rules) - 2
        rules += [("join", last, last + 1), ("join", last + 1, last)]
    return rules[:-1]


def kinds_of_rules(many):
    """Pairs of a seed and rules of a great text, twice so many by chance and two more."""
    kinds = [(seed, kind(rng_of(seed))) for seed in range(many) for kind in (great_rules, hard_rules)]
    return kinds + [(0, words_joined(56)), (1, swapped(28))]


class Sums:
    """Sums of the letters of great texts: parts with the same letters have the same sum, others practically never."""

    prime = 2 ** 61 - 1
    base = 1234567890123456789

    def __init__(self, rules):
        self.rules = rules
        self.sizes = []
        for rule in rules:
            self.sizes.append(size_made(rule, self.sizes))
        self.known = {}

    def of(self, start, stop):
        return self.sum_of(len(self.rules) - 1, start, stop, False)

    def sum_of(self, number, start, stop, turned):
        """The sum of a part of what a rule makes, the last letter first if it is turned."""
        key = (number, start, stop, turned)
        if key not in self.known:
            self.known[key] = self.sum_by_rule(self.rules[number], start, stop, turned) if start < stop else 0
        return self.known[key]

    def sum_by_rule(self, rule, start, stop, turned):
        word = rule[0]
        if word == "letters":
            return self.in_a_row([(ord(letter), 1) for letter in rule[1][start:stop]], turned)
        size = self.sizes[rule[1]]
        if word == "part":
            return self.sum_of(rule[1], rule[2] + start, rule[2] + stop, turned)
        if word == "back":
            return self.sum_of(rule[1], size - stop, size - start, not turned)
        if word == "join":
            parts = [(rule[1], min(start, size), min(stop, size)), (rule[2], max(start - size, 0), max(stop - size, 0))]
            return self.in_a_row([(self.sum_of(*part, turned), part[2] - part[1]) for part in parts], turned)
        if stop <= start // size * size + size:
            return self.sum_of(rule[1], start % size, start % size + stop - start, turned)
        head, tail = -start % size, stop % size
        return self.in_a_row([(self.sum_of(rule[1], size - head, size, turned), head),
                              self.power_of(self.sum_of(rule[1], 0, size, turned), size, (stop - start - head) // size),
                              (self.sum_of(rule[1], 0, tail, turned), tail)], turned)

    def in_a_row(self, parts, turned):
        """The sum of parts (sum, size), one behind the other."""
        total = 0
        for part, size in parts[::-1] if turned else parts:
            total = (total * pow(self.base, size, self.prime) + part) % self.prime
        return total

    def power_of(self, part, size, times):
        """The sum and the size of so many times a part."""
        total, many = 0, 0
        while times:
            if times % 2:
                total, many = self.in_a_row([(part, size), (total, many)], False), many + size
            part, size, times = self.in_a_row([(part, size), (part, size)], False), 2 * size, times // 2
        return (total, many)
