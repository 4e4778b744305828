"""What the package answers on rules, counted letter by letter on strings."""


def common_from(first, start, second, at):
    many = 0
    while start + many < len(first) and at + many < len(second) and first[start + many] == second[at + many]:
        many += 1
    return many


def common_to(first, stop, second, at):
    return common_from(first[:stop][::-1], 0, second[:at][::-1], 0)


def mismatches(pattern, string, place, limit):
    if place + len(pattern) > len(string):
        return None
    return tuple([k for k, letter in enumerate(pattern) if letter != string[place + k]][:limit])


def numbers_of(rows):
    """The numbers of some progressions."""
    return [first + step * k for first, step, count in rows for k in range(count)]


def cut(numbers):
    """The progressions of D1, number by number."""
    rows = []
    for number in numbers:
        if rows and len(rows[-1]) < 2 or rows and number == 2 * rows[-1][-1] - rows[-1][-2]:
            rows[-1].append(number)
        else:
            rows.append([number])
    return tuple([(row[0], row[1] - row[0] if len(row) > 1 else 0, len(row)) for row in rows])


def occurrences(pattern, string):
    return [place for place in range(len(string) - len(pattern) + 1) if string.startswith(pattern, place)]


def around(pattern, string, place):
    found = [first for first in occurrences(pattern, string) if first <= place < first + len(pattern)]
    distances = sorted({right - left for left, right in zip(found, found[1:])}) or [0]
    assert len(distances) == 1
    return (found[0] if found else None, distances[0], len(found))


def overlaps(first, second):
    return [many for many in range(1, min(len(first), len(second)) + 1) if first[-many:] == second[:many]]


def count_in_rules(pattern, rules):
    """How often a short pattern stands in the text of great rules without parts and without texts turned round."""
    most = len(pattern) - 1
    made = []
    for rule in rules:
        if rule[0] == "letters":
            made.append(counted(pattern, rule[1], most))
        elif rule[0] == "join":
            made.append(joined(pattern, made[rule[1]], made[rule[2]], most))
        else:
            power, square, times = counted(pattern, "", most), made[rule[1]], rule[2]
            while times:
                if times % 2:
                    power = joined(pattern, power, square, most)
                square, times = joined(pattern, square, square, most), times // 2
            made.append(power)
    return made[-1][0]


def counted(pattern, string, most):
    """The count in a string, and its first and its last letters, as many as can have part in other occurrences."""
    return (len(occurrences(pattern, string)), string[:most], string[max(0, len(string) - most):])


def joined(pattern, first, second, most):
    crossing = len(occurrences(pattern, first[2] + second[1]))
    return (first[0] + second[0] + crossing, (first[1] + second[1])[:most] if len(first[1]) < most else first[1],
            (first[2] + second[2])[-most:] if most and len(second[2]) < most else second[2])


def periods(string):
    return [number for number in range(1, len(string) + 1)
            if all(string[place] == string[place + number] for place in range(len(string) - number))]


def root(string):
    """The length of the root, and the exponent."""
    return next((size, len(string) // size) for size in range(1, len(string) + 1)
                if len(string) % size == 0 and string == string[:size] * (len(string) // size))


def rotation(first, second):
    if not first and not second:
        return 0
    return next((number for number in range(len(first)) if first[number:] + first[:number] == second), None)


def stretch_around(string, start, stop):
    period = periods(string[start:stop])[0]
    if stop - start < 2 * period:
        return None
    while start > 0 and string[start - 1] == string[start - 1 + period]:
        start -= 1
    while stop < len(string) and string[stop] == string[stop - period]:
        stop += 1
    return (period, start, stop)


def ordering(strings):
    numbers = sorted(range(len(strings)), key=lambda number: (strings[number], number))
    return (tuple(numbers), tuple([common_from(strings[left], 0, strings[right], 0)
                                   for left, right in zip(numbers, numbers[1:])]))


def beginnings(strings):
    return len({string[:size] for string in strings for size in range(1, len(string) + 1)})


def beginners(strings, pattern):
    start = len([string for string in strings if string < pattern])
    return (start, start + len([string for string in strings if string.startswith(pattern)]))


def palindrome(string, centre):
    """From where up to where the greatest palindrome around a centre goes."""
    start, stop = centre // 2, (centre + 1) // 2
    while start > 0 and stop < len(string) and string[start - 1] == string[stop]:
        start, stop = start - 1, stop + 1
    return (start, stop)


def spelled_by(strings, cut):
    """The strings that a cut spells, letter by letter, None if some phrase copies what is not there."""
    made = []
    for number, row in enumerate(cut):
        if made != strings[:number]:
            return None
        made.append("")
        for word, *told in row:
            if word == "letter":
                made[number] += told[0]
                continue
            source, start, many = told
            if many < 1 or start < 0 or not 0 <= source <= number or start >= len(made[source]):
                return None
            if source < number and start + many > len(strings[source]):
                return None
            # A wrong copy can have more letters than anybody can go through.
            for place in range(start, start + min(many, 1000)):
                made[number] += made[source][place]
    return made


def longest_copy(strings, number, place):
    """The longest copy for a place of a string, as (source, start, many), by trying all."""
    best = (0, 0, 0)
    for source in range(number + 1):
        for start in range(len(strings[source]) if source < number else place):
            many = common_from(strings[source], start, strings[number], place)
            if many > best[2]:
                best = (source, start, many)
    return best


def shortest_cut(strings):
    rows = []
    for number, string in enumerate(strings):
        row, place = [], 0
        while place < len(string):
            source, start, many = longest_copy(strings, number, place)
            row.append(("copy", source, start, many) if many > 1 else ("letter", string[place]))
            place += max(many, 1)
        rows.append(tuple(row))
    return tuple(rows)


def fewest_phrases(strings, number):
    """The least number of phrases that spell a string, by trying each length of each first phrase."""
    string = strings[number]
    fewest = [0] * (len(string) + 1)
    for place in range(len(string) - 1, -1, -1):
        many = max(1, longest_copy(strings, number, place)[2])
        fewest[place] = 1 + min(fewest[place + size] for size in range(1, many + 1))
    return fewest[0]


def phrases_spelled(string, phrases):
    """What right phrases spell beside a string, letter by letter."""
    made = ""
    for word, *told in phrases:
        if word == "letter":
            made += told[0]
        else:
            source, start, many = told
            for place in range(start, start + many):
                made += (made if source else string)[place]
    return made


def first_difference(string, other):
    place = common_from(string, 0, other, 0)
    return None if string == other else place


def first_occurrence(pattern, string):
    return string.find(pattern) if pattern and pattern in string else None
