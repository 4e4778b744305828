"""The answers that a bench has told, which it keeps by the letters of the texts that were asked about."""

from shortheld.questions import answer_in, key_of
from shortheld.trees import Trees


class Numbers:
    """Numbers for texts: texts that are the same have the same number, others have others."""

    def __init__(self):
        self.by_text = {}
        self.by_letters = {}
        # The first text with so many letters, as long as no other one has so many: its letters need not be told.
        self.alone = {}
        self.lengths = {}

    def number_of(self, text):
        """The number of a text."""
        if text not in self.by_text:
            self.by_text[text] = self.number_by_letters(text)
        return self.by_text[text]

    def number_by_letters(self, text):
        """The number of a text that has none yet."""
        new = len(self.by_text)
        if text.length not in self.lengths:
            self.lengths[text.length] = True
            self.alone[text.length] = text
            return new
        if text.length in self.alone:
            first = self.alone.pop(text.length)
            self.by_letters[key_of("letters", [first])] = self.by_text[first]
        return self.by_letters.setdefault(key_of("letters", [text]), new)


class Memory:
    """What was decided, and how many questions were, or had been."""

    def __init__(self):
        self.numbers = Numbers()
        # Answers by the word of the question and the numbers of its texts.
        self.known = {}
        self.decided = 0
        self.kept = 0

    def answers_to(self, asked):
        """The list of the answers to questions, each told by its word and the list of its texts."""
        new = {}
        rows = []
        for word, texts in asked:
            numbers = [self.numbers.number_of(text) for text in texts]
            row = (word, *numbers)
            rows.append(row)
            if row not in self.known:
                new[row] = texts
        self.decide(new)
        self.decided += len(new)
        self.kept += len(rows) - len(new)
        return [self.known[row] for row in rows]

    def decide(self, new):
        """Decide questions with these texts, all in one store."""
        texts = {}
        for row in new:
            for number, text in zip(row[1:], new[row]):
                texts[number] = text
        trees = Trees(list(texts.values()))
        roots = {number: root for number, root in zip(texts, trees.roots)}
        for row in new:
            self.known[row] = answer_in(trees, row[0], [roots[number] for number in row[1:]])

    def work(self):
        """The pair of how many were decided, and how many had been, since this was asked last."""
        told = (self.decided, self.kept)
        self.decided = 0
        self.kept = 0
        return told
