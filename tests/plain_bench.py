"""A plain model of the bench: texts are strings, and all that was ever defined is kept as a list."""

from tests import slow

MOST = 8


class Fault(Exception):
    """The error that a bench raises: the name of its class, and its attributes."""

    def __init__(self, word, **told):
        super().__init__(word)
        self.word = word
        self.told = told


class PlainBench:
    def __init__(self):
        self.states = [({}, {})]
        self.at = 0
        self.asked = {}
        self.counts = [0, 0]

    def __len__(self):
        return self.at

    def now(self):
        return self.states[self.at]

    def change(self, texts, questions):
        self.states = self.states[:self.at + 1] + [(texts, questions)]
        self.at += 1

    def set(self, name, string):
        self.change({**self.now()[0], name: string}, self.now()[1])

    def check_name(self, name, kept):
        if not 1 <= len(name) <= 24:
            raise Fault("BadName", name=name)
        if name not in kept and len(kept) == MOST:
            raise Fault("NoRoom", name=name)

    def check_part(self, string, start, stop):
        if not 0 <= start <= stop <= len(string):
            raise Fault("NoPart", start=start, stop=stop)

    def check_place(self, size, place):
        if not 0 <= place <= size:
            raise Fault("NoPlace", place=place)

    def set_text(self, name, string):
        self.check_name(name, self.now()[0])
        self.set(name, string)

    def remove_text(self, name):
        self.text(name)
        for question in self.questions():
            if name in self.question(question)[1:]:
                raise Fault("InUse", name=question)
        texts = dict(self.now()[0])
        del texts[name]
        self.change(texts, self.now()[1])

    def insert(self, name, place, other):
        string = self.text(name)
        self.check_place(len(string), place)
        self.set(name, string[:place] + other + string[place:])

    def take_out(self, name, start, stop):
        string = self.text(name)
        self.check_part(string, start, stop)
        self.set(name, string[:start] + string[stop:])

    def move(self, name, start, stop, place):
        string = self.text(name)
        self.check_part(string, start, stop)
        rest = string[:start] + string[stop:]
        self.check_place(len(rest), place)
        self.set(name, rest[:place] + string[start:stop] + rest[place:])

    def turn(self, name, start, stop):
        string = self.text(name)
        self.check_part(string, start, stop)
        self.set(name, string[:start] + string[start:stop][::-1] + string[stop:])

    def repeat(self, name, start, stop, times):
        string = self.text(name)
        self.check_part(string, start, stop)
        if not 0 <= times <= 10 ** 12:
            raise Fault("BadTimes")
        if len(string) + (stop - start) * (times - 1) > 10 ** 12:
            raise Fault("TooLarge")
        self.set(name, string[:start] + string[start:stop] * times + string[stop:])

    def spell(self, name, phrases):
        string, size = self.text(name), 0
        for number, phrase in enumerate(phrases):
            if phrase[0] == "letter":
                size += 1
            elif phrase[2] + phrase[3] > len(string) if phrase[1] == 0 else phrase[2] >= size:
                raise Fault("BadPhrase", number=number)
            else:
                size += phrase[3]
        self.set(name, slow.phrases_spelled(string, phrases))

    def copy_part(self, name, start, stop, other, place):
        string = self.text(name)
        self.check_part(string, start, stop)
        target = self.text(other)
        self.check_place(len(target), place)
        self.set(other, target[:place] + string[start:stop] + target[place:])

    def set_question(self, name, question):
        self.check_name(name, self.now()[1])
        many = {"same": 2, "occurs": 2, "count": 2, "period": 1}
        if not question or question[0] not in many:
            raise Fault("BadQuestion", reason="word")
        if len(question) != 1 + many[question[0]]:
            raise Fault("BadQuestion", reason="length")
        for other in question[1:]:
            self.text(other)
        self.change(self.now()[0], {**self.now()[1], name: tuple(question)})

    def remove_question(self, name):
        self.question(name)
        questions = dict(self.now()[1])
        del questions[name]
        self.change(self.now()[0], questions)

    def undo(self):
        if self.at == 0:
            raise Fault("NothingLeft", name=None)
        self.at -= 1

    def redo(self):
        if self.at + 1 == len(self.states):
            raise Fault("NothingLeft", name=None)
        self.at += 1

    def text(self, name):
        if name not in self.now()[0]:
            raise Fault("NoText", name=name)
        return self.now()[0][name]

    def question(self, name):
        if name not in self.now()[1]:
            raise Fault("NoQuestion", name=name)
        return self.now()[1][name]

    def texts(self):
        return sorted(self.now()[0])

    def questions(self):
        return sorted(self.now()[1])

    def phrases(self, name, other):
        first, second = self.text(name), self.text(other)
        if len(first) + len(second) > 4096:
            raise Fault("TooManyLetters")
        return slow.shortest_cut([first, second])[1]

    def answers(self):
        out = []
        for name in self.questions():
            word, *names = self.question(name)
            key = (word, *[self.text(other) for other in names])
            self.counts[key in self.asked] += 1
            self.asked[key] = answer_of(*key)
            out.append((name, self.asked[key]))
        return out

    def work(self):
        told, self.counts = tuple(self.counts), [0, 0]
        return told


def answer_of(word, string, other=None):
    if word == "same":
        return slow.first_difference(string, other)
    if not string:
        return None
    if word == "period":
        return slow.periods(string)[0]
    if word == "occurs":
        return slow.first_occurrence(string, other)
    return len(slow.occurrences(string, other))
