"""What phrases spell beside a text that they can copy from."""


class Spelling:
    """What phrases spell, one behind the other, by the rules of a making.

    What is spelled stands in blocks, (number of a rule, how many phrases), each of fewer phrases than the one ahead of
    it, so that a copy goes over few of them.
    """

    def __init__(self, making, text):
        self.making = making
        self.source = making.taken_in(text)
        self.blocks = []
        self.size = 0

    def spell(self, phrase):
        """Spell what a right phrase tells."""
        if phrase[0] == "letter":
            self.put(self.making.number_of(("letters", phrase[1])))
        elif phrase[1] == 0:
            self.put(self.making.part(self.source, phrase[2], phrase[2] + phrase[3]))
        else:
            self.put(self.copied(phrase[2], phrase[3]))

    def put(self, number):
        """Put what a rule makes behind what is spelled."""
        self.size += self.making.lengths[number]
        many = 1
        while self.blocks and self.blocks[-1][1] == many:
            before, _ = self.blocks.pop()
            number = self.making.joined([before, number])
            many *= 2
        self.blocks.append((number, many))

    def copied(self, start, many):
        """The number of a rule that makes so many letters, copied from a place of what is spelled on."""
        size = self.size - start
        if many <= size:
            return self.spelled(start, start + many)
        # What is copied is repeated: the copy goes on into itself.
        word = self.spelled(start, self.size)
        return self.making.part(self.making.power(word, (many + size - 1) // size), 0, many)

    def spelled(self, start, stop):
        """The number of a rule that makes a part of what is spelled."""
        parts = []
        for number, _ in self.blocks:
            size = self.making.lengths[number]
            low = max(start, 0)
            high = min(stop, size)
            if low < high:
                parts.append(self.making.part(number, low, high))
            start -= size
            stop -= size
        return self.making.joined(parts)
