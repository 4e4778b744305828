"""Questions about texts."""

from shortheld.counts import Counts
from shortheld.errors import HeldError
from shortheld.periods import least_period_in
from shortheld.store import store_of
from shortheld.trees import Trees

# How many names of texts stand behind each word.
MANY_NAMES = {"same": 2, "occurs": 2, "count": 2, "period": 1}


class BadQuestion(HeldError):
    """A question is wrong, and why."""

    def __init__(self, reason):
        super().__init__(f"the question is wrong: {reason}")
        self.reason = reason


def check_question(question):
    """Raise BadQuestion for a tuple or list that is no question."""
    if not question or not isinstance(question[0], str) or question[0] not in MANY_NAMES:
        raise BadQuestion("word")
    if len(question) != 1 + MANY_NAMES[question[0]]:
        raise BadQuestion("length")


def answer(word, texts):
    """The answer to a question of a word about texts."""
    trees = Trees(texts)
    return answer_in(trees, word, trees.roots)


def answer_in(trees, word, roots):
    """The answer to a question of a word about the texts of some roots of a store."""
    if word == "same":
        return trees.difference(roots[0], roots[1])
    if roots[0] is None:
        return None
    if word == "period":
        return least_period_in(trees, roots[0])
    return answer_about(trees, word, roots[0], roots[1])


def answer_about(trees, word, pattern, root):
    """The answer to a question about the occurrences of a pattern with letters in a text, both told by their roots."""
    if root is None or trees.lengths[root] < trees.lengths[pattern]:
        return 0 if word == "count" else None
    counts = Counts(trees, pattern, root)
    if word == "count":
        return counts.total
    return counts.nth(0) if counts.total else None


def key_of(word, texts):
    """A string that tells the word of a question and the letters of the texts that it is about."""
    _, symbols, roots = store_of(texts)
    return f"{word} {symbols} {roots}"
