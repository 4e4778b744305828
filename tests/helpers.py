"""What several tests use: texts made letter by letter, random rules, and the store made letter by letter."""

import random

WORDS = ("join", "join", "power", "part", "back", "letters")


def all_made(rules):
    """The strings that the rules of a small text make."""
    made = []
    for rule in rules:
        word = rule[0]
        if word == "letters":
            made.append(rule[1])
        elif word == "join":
            made.append(made[rule[1]] + made[rule[2]])
        elif word == "power":
            made.append(made[rule[1]] * rule[2])
        elif word == "part":
            made.append(made[rule[1]][rule[2]:rule[3]])
        else:
            made.append(made[rule[1]][::-1])
    return made


def random_rule(rng, alphabet, sizes, powers):
    """A rule behind rules that make so many letters."""
    word = rng.choice(WORDS) if sizes else "letters"
    if word == "letters":
        return (word, "".join([rng.choice(alphabet) for _ in range(rng.choice((0, 1, 1, 2, 3, 5, 8)))]))
    first, second = [len(sizes) - 1 if rng.random() < 0.6 else rng.randrange(len(sizes)) for _ in range(2)]
    if word == "join":
        return (word, first, second)
    if word == "power":
        return (word, first, rng.choice(powers))
    if word == "part":
        size = sizes[first]
        cuts = sorted([rng.randint(0, size), rng.randint(0, size)])
        ends = [min(size, rng.randint(0, 3)), size - min(size, rng.randint(0, 3))]
        start, stop = (rng.choice((cuts[0], ends[0])), rng.choice((cuts[1], ends[1])))
        return (word, first, min(start, stop), max(start, stop))
    return (word, first)


def random_rules(rng, many, largest, alphabet, powers=(0, 1, 2, 3, 4, 5, 7, 16)):
    """So many right rules, none of which makes more letters than the largest number."""
    rules = []
    sizes = []
    while len(rules) < many:
        rule = random_rule(rng, alphabet, sizes, powers)
        size = size_made(rule, sizes)
        if size <= largest:
            rules.append(rule)
            sizes.append(size)
    return rules


def size_made(rule, sizes):
    word = rule[0]
    if word == "letters":
        return len(rule[1])
    if word == "join":
        return sizes[rule[1]] + sizes[rule[2]]
    if word == "power":
        return sizes[rule[1]] * rule[2]
    if word == "part":
        return rule[3] - rule[2]
    return sizes[rule[1]]


def rng_of(seed):
    return random.Random(seed)


class SlowStore:
    """The store of some strings, made letter by letter as the points B2 to B6 tell."""

    def __init__(self, strings):
        letters = sorted(set("".join(strings)))
        self.symbols = [("letter", letter) for letter in letters]
        self.rows = [[letters.index(letter) for letter in string] for string in strings]
        self.ends = [len(letters)]
        self.seams_left = [self.many_seams()]
        self.rounds = 0
        while any(len(row) > 1 for row in self.rows):
            self.make_runs()
            self.make_pairs()
            self.rounds += 1
            self.seams_left.append(self.many_seams())
        self.roots = tuple(row[0] if row else None for row in self.rows)

    def many_seams(self):
        return sum(len(row) - 1 for row in self.rows if row)

    def seams(self):
        return [(row[k], row[k + 1]) for row in self.rows for k in range(len(row) - 1)]

    def numbered(self, word, found):
        numbers = {}
        for pair in sorted(found):
            numbers[pair] = len(self.symbols)
            self.symbols.append((word,) + pair)
        self.ends.append(len(self.symbols))
        return numbers

    def make_runs(self):
        rows = []
        for row in self.rows:
            runs = []
            for symbol in row:
                if runs and runs[-1][0] == symbol:
                    runs[-1] = (symbol, runs[-1][1] + 1)
                else:
                    runs.append((symbol, 1))
            rows.append(runs)
        numbers = self.numbered("run", {run for row in rows for run in row if run[1] > 1})
        self.rows = [[numbers.get(run, run[0]) for run in row] for row in rows]

    def left_and_right(self):
        seams = self.seams()
        first, second = set(), set()
        for symbol in sorted({symbol for row in self.rows for symbol in row}):
            beside = [right for left, right in seams if left == symbol]
            beside += [left for left, right in seams if right == symbol]
            on_first = sum(1 for other in beside if other in first)
            on_second = sum(1 for other in beside if other in second)
            (first if on_first <= on_second else second).add(symbol)
        forth = sum(1 for left, right in seams if left in first and right in second)
        back = sum(1 for left, right in seams if left in second and right in first)
        return (first, second) if forth >= back else (second, first)

    def make_pairs(self):
        lefts, rights = self.left_and_right()
        found = {(left, right) for left, right in self.seams() if left in lefts and right in rights}
        numbers = self.numbered("pair", found)
        rows = []
        for row in self.rows:
            out = []
            k = 0
            while k < len(row):
                pair = tuple(row[k:k + 2])
                out.append(numbers.get(pair, row[k]))
                k += 2 if pair in numbers else 1
            rows.append(out)
        self.rows = rows


def spelled(symbols):
    """The strings for which the symbols of a small store stand."""
    out = []
    for word, symbol, *more in symbols:
        if word == "letter":
            out.append(symbol)
        elif word == "run":
            out.append(out[symbol] * more[0])
        else:
            out.append(out[symbol] + out[more[0]])
    return out


def letter_at(store, symbol, place):
    """The letter at a place of what a symbol of a great store stands for."""
    while True:
        word, base, *more = store.symbols[symbol]
        if word == "letter":
            return base
        size = store.lengths[base]
        if word == "run":
            symbol, place = base, place % size
        elif place < size:
            symbol = base
        else:
            symbol, place = more[0], place - size
