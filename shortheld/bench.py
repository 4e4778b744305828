"""A bench of texts, with questions about them."""

from shortheld.changes import apply_phrases, insert_at, move_part, part_of, remove_part, repeat_part, turn_part
from shortheld.cuts import shortest_cut
from shortheld.errors import HeldError
from shortheld.memory import Memory
from shortheld.questions import check_question
from shortheld.store import store_of

MOST_KEPT = 8
MOST_CHARACTERS = 24


class BenchError(HeldError):
    """A call of a bench is wrong, because of a name."""

    def __init__(self, name):
        super().__init__(f"the call is wrong because of {name}")
        self.name = name


class BadName(BenchError):
    """This is no name."""


class NoText(BenchError):
    """No text has this name."""


class NoQuestion(BenchError):
    """No question has this name."""


class NoRoom(BenchError):
    """There are as many already as a bench keeps."""


class InUse(BenchError):
    """The question with this name is about the text."""


class NothingLeft(BenchError):
    """There is nothing that can be undone, or redone."""


def check_new(name, kept):
    """Raise an error for a name that cannot be one of those that are kept."""
    if not isinstance(name, str) or not 1 <= len(name) <= MOST_CHARACTERS:
        raise BadName(name)
    if name not in kept and len(kept) >= MOST_KEPT:
        raise NoRoom(name)


def without(kept, name):
    """What is kept, but for what has this name."""
    return {other: kept[other] for other in kept if other != name}


class Bench:
    """Texts and questions by their names, with all changes, which can be undone."""

    def __init__(self):
        # They are never modified: each change makes new ones.
        self.named = {}
        self.asked = {}
        # What was defined ahead of each change, and what each undo took away.
        self.done = []
        self.undone = []
        self.memory = Memory()

    def __len__(self):
        return len(self.done)

    def define(self, named, asked):
        """Make a change: these are the texts and the questions now."""
        self.done.append((self.named, self.asked))
        self.undone = []
        self.named = named
        self.asked = asked

    def define_text(self, name, text):
        """Make a change: this is the text with this name now."""
        self.define({**self.named, name: text}, self.asked)

    def set_text(self, name, text):
        """Define a text."""
        check_new(name, self.named)
        self.define_text(name, text)

    def remove_text(self, name):
        """Take a text away about which there is no question."""
        self.text(name)
        for other in self.questions():
            if name in self.asked[other][1:]:
                raise InUse(other)
        self.define(without(self.named, name), self.asked)

    def insert(self, name, place, text):
        """Put another text into a text at a place."""
        self.define_text(name, insert_at(self.text(name), place, text))

    def take_out(self, name, start, stop):
        """Take a part out of a text."""
        self.define_text(name, remove_part(self.text(name), start, stop))

    def move(self, name, start, stop, place):
        """Take a part out of a text and put it in at a place of what is left."""
        self.define_text(name, move_part(self.text(name), start, stop, place))

    def turn(self, name, start, stop):
        """Turn a part of a text round."""
        self.define_text(name, turn_part(self.text(name), start, stop))

    def repeat(self, name, start, stop, times):
        """Repeat a part of a text so many times."""
        self.define_text(name, repeat_part(self.text(name), start, stop, times))

    def spell(self, name, phrases):
        """Put what phrases spell beside a text in its place."""
        self.define_text(name, apply_phrases(self.text(name), phrases))

    def copy_part(self, name, start, stop, other, place):
        """Put a part of a text into another text, or into the same one, at a place."""
        part = part_of(self.text(name), start, stop)
        self.define_text(other, insert_at(self.text(other), place, part))

    def set_question(self, name, question):
        """Define a question."""
        check_new(name, self.asked)
        check_question(question)
        for other in question[1:]:
            self.text(other)
        self.define(self.named, {**self.asked, name: tuple(question)})

    def remove_question(self, name):
        """Take a question away."""
        self.question(name)
        self.define(self.named, without(self.asked, name))

    def undo(self):
        """Bring back what was defined before the last change that was not undone."""
        if not self.done:
            raise NothingLeft(None)
        self.undone.append((self.named, self.asked))
        self.named, self.asked = self.done.pop()

    def redo(self):
        """Bring back what the last undo that was not redone took away."""
        if not self.undone:
            raise NothingLeft(None)
        self.done.append((self.named, self.asked))
        self.named, self.asked = self.undone.pop()

    def text(self, name):
        """The text with a name."""
        if name not in self.named:
            raise NoText(name)
        return self.named[name]

    def question(self, name):
        """The question with a name, a tuple."""
        if name not in self.asked:
            raise NoQuestion(name)
        return self.asked[name]

    def texts(self):
        """The names of the texts, ascending."""
        return sorted(self.named)

    def questions(self):
        """The names of the questions, ascending."""
        return sorted(self.asked)

    def phrases(self, name, other):
        """The fewest phrases that spell another text beside a text."""
        return shortest_cut([self.text(name), self.text(other)])[1]

    def store(self):
        """The store of all texts in the ascending order of their names."""
        return store_of([self.named[name] for name in self.texts()])

    def answers(self):
        """The list of pairs of the name of a question and its answer, in the ascending order of the names."""
        asked = []
        for name in self.questions():
            word, *names = self.asked[name]
            asked.append((word, [self.named[other] for other in names]))
        return list(zip(self.questions(), self.memory.answers_to(asked)))

    def work(self):
        """How many of the questions gone through since the last call were decided, and how many had been."""
        return self.memory.work()
