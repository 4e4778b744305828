"""I1 to I5: the bench, method by method and error by error."""

import unittest

from shortheld.bench import BadName, Bench, BenchError, InUse, NoQuestion, NoRoom, NoText, NothingLeft
from shortheld.changes import BadPhrase
from shortheld.cuts import TooManyLetters, shortest_cut
from shortheld.errors import BadTimes, HeldError, NoPart, NoPlace, TooLarge
from shortheld.questions import BadQuestion
from shortheld.store import store_of
from shortheld.text import Text
from tests.great import MOST
from tests.ways import by_rules, letters, string_of, ways

NAMES = ["a", "b", "c", "d", "e", "f", "g", "h"]
QUESTIONS = {"q": ("same", "a", "b"), "r": ("occurs", "b", "a"), "s": ("count", "b", "a"), "t": ("period", "a")}


def most():
    return Text([("letters", "a"), ("power", 0, MOST)])


class BenchTest(unittest.TestCase):
    def bench(self, texts=None, questions=None):
        bench = Bench()
        for name, string in (texts or {}).items():
            bench.set_text(name, letters(string))
        for name, question in (questions or {}).items():
            bench.set_question(name, question)
        return bench

    def told(self, bench):
        """What a bench tells, apart from its work."""
        return ([(name, string_of(bench.text(name))) for name in bench.texts()],
                [(name, bench.question(name)) for name in bench.questions()], bench.store(), len(bench))

    def check_error(self, bench, kind, told, method, *arguments):
        """A call raises an error, and leaves everything as it was."""
        before = self.told(bench)
        with self.assertRaises(kind) as caught:
            method(*arguments)
        self.assertIs(caught.exception.__class__, kind)
        self.assertIsInstance(caught.exception, HeldError)
        self.assertEqual(vars(caught.exception), told)
        self.assertEqual(self.told(bench), before)

    def check_text(self, bench, name, string):
        self.assertEqual(string_of(bench.text(name)), string)


class TestTexts(BenchTest):
    def test_an_empty_bench(self):
        bench = Bench()
        self.assertEqual(self.told(bench), ([], [], (0, (), ()), 0))
        self.assertEqual((bench.answers(), bench.work(), bench.texts(), bench.questions()), ([], (0, 0), [], []))

    def test_set_and_remove(self):
        bench = Bench()
        self.assertIsNone(bench.set_text("b", letters("xy")))
        self.assertIsNone(bench.set_text("a", by_rules("abab")))
        self.assertEqual((bench.texts(), len(bench)), (["a", "b"], 2))
        text = letters("z")
        self.assertIsNone(bench.set_text("b", text))
        self.check_text(bench, "b", "z")
        self.assertIsInstance(bench.text("a"), Text)
        self.assertIsNone(bench.remove_text("b"))
        self.assertEqual((bench.texts(), len(bench)), (["a"], 4))
        self.check_error(bench, NoText, {"name": "b"}, bench.text, "b")

    def test_names(self):
        bench = Bench()
        for name in ("a", "a" * 24, " ", "\n", "\u00e4\u4e00", chr(37) + "d", "Z" * 23):
            bench.set_text(name, letters("x"))
            bench.set_question(name, ("period", name))
        self.assertEqual(bench.texts(), sorted(bench.texts()))
        self.assertEqual(bench.questions(), bench.texts())
        for name in ("", "a" * 25, "b" * 100):
            self.check_error(bench, BadName, {"name": name}, bench.set_text, name, letters("x"))
            self.check_error(bench, BadName, {"name": name}, bench.set_question, name, ("period", "a"))
            self.check_error(bench, BadName, {"name": name}, bench.set_question, name, ("perod", "nobody"))
            self.check_error(bench, NoText, {"name": name}, bench.text, name)
            self.check_error(bench, NoText, {"name": name}, bench.remove_text, name)
            self.check_error(bench, NoQuestion, {"name": name}, bench.question, name)
            self.check_error(bench, NoQuestion, {"name": name}, bench.remove_question, name)

    def test_the_eighth_and_the_ninth(self):
        bench = self.bench({name: "ab" for name in NAMES})
        self.assertEqual(bench.texts(), NAMES)
        self.check_error(bench, NoRoom, {"name": "i"}, bench.set_text, "i", letters("x"))
        self.check_error(bench, BadName, {"name": ""}, bench.set_text, "", letters("x"))
        bench.set_text("h", letters("xyz"))
        for name in NAMES:
            bench.set_question(name, ("period", name))
        self.check_error(bench, NoRoom, {"name": "i"}, bench.set_question, "i", ("period", "a"))
        self.check_error(bench, NoRoom, {"name": "i"}, bench.set_question, "i", ())
        self.check_error(bench, NoRoom, {"name": "i"}, bench.set_question, "i", ("period", "nobody"))
        self.check_error(bench, BadName, {"name": "i" * 25}, bench.set_question, "i" * 25, ())
        bench.set_question("h", ("same", "a", "b"))
        bench.remove_question("a")
        bench.set_question("i", ("period", "b"))
        self.check_error(bench, InUse, {"name": "h"}, bench.remove_text, "a")
        bench.remove_question("h")
        bench.remove_text("a")
        bench.set_text("i", letters("x"))
        self.assertEqual(bench.texts(), NAMES[1:] + ["i"])
        self.check_error(bench, NoRoom, {"name": "a"}, bench.set_text, "a", letters("x"))

    def test_in_use(self):
        bench = self.bench({"a": "ab", "b": "b", "c": ""}, {"z": ("same", "a", "b"), "y": ("period", "b"), "x": ("count", "b", "b")})
        self.check_error(bench, InUse, {"name": "x"}, bench.remove_text, "b")
        self.check_error(bench, InUse, {"name": "z"}, bench.remove_text, "a")
        self.check_error(bench, NoText, {"name": "x"}, bench.remove_text, "x")
        bench.remove_text("c")
        bench.remove_question("z")
        bench.remove_text("a")
        self.check_error(bench, InUse, {"name": "x"}, bench.remove_text, "b")
        bench.remove_question("x")
        self.check_error(bench, InUse, {"name": "y"}, bench.remove_text, "b")
        bench.undo()
        self.check_error(bench, InUse, {"name": "x"}, bench.remove_text, "b")

    def test_lists_are_copies(self):
        bench = self.bench({"a": "ab", "b": "b"}, QUESTIONS)
        before = self.told(bench)
        bench.texts().append("x")
        bench.questions().clear()
        bench.answers().clear()
        self.assertEqual(self.told(bench), before)
        question = ["same", "a", "b"]
        bench.set_question("q", question)
        question[1] = "b"
        self.assertEqual(bench.question("q"), ("same", "a", "b"))
        self.assertIsInstance(bench.texts(), list)
        self.assertIsInstance(bench.questions(), list)
        self.assertIsInstance(bench.question("q"), tuple)


class TestChanges(BenchTest):
    def test_each_change(self):
        bench = self.bench({"a": "abcde", "b": "xy"})
        for method, arguments, string in ((bench.insert, (1, letters("xy")), "axybcde"), (bench.take_out, (0, 2), "ybcde"),
                                          (bench.move, (0, 2, 3), "cdeyb"), (bench.turn, (1, 4), "cyedb"),
                                          (bench.repeat, (0, 1, 3), "cccyedb"),
                                          (bench.spell, ((("copy", 0, 5, 2), ("letter", "x"), ("copy", 1, 1, 4)),), "dbxbxbx")):
            many = len(bench)
            self.assertIsNone(method("a", *arguments))
            self.check_text(bench, "a", string)
            self.check_text(bench, "b", "xy")
            self.assertEqual(len(bench), many + 1)
            bench.undo()
            bench.redo()
            self.check_text(bench, "a", string)

    def test_copy_part(self):
        bench = self.bench({"a": "abcde", "b": "xy"})
        self.assertIsNone(bench.copy_part("a", 1, 3, "b", 1))
        self.check_text(bench, "b", "xbcy")
        self.check_text(bench, "a", "abcde")
        bench.copy_part("b", 0, 4, "a", 5)
        self.check_text(bench, "a", "abcdexbcy")
        bench.copy_part("a", 0, 9, "a", 2)
        self.check_text(bench, "a", "ababcdexbcycdexbcy")
        bench.copy_part("a", 3, 3, "b", 0)
        self.check_text(bench, "b", "xbcy")
        self.assertEqual(len(bench), 6)

    def test_errors_of_changes(self):
        bench = self.bench({"a": "abcde"})
        for method, arguments in ((bench.insert, (9, letters("x"))), (bench.take_out, (9, 9)), (bench.move, (9, 9, 9)),
                                  (bench.turn, (9, 9)), (bench.repeat, (9, 9, -1)), (bench.spell, ([()],))):
            self.check_error(bench, NoText, {"name": "z"}, method, "z", *arguments)
        for start, stop in ((-1, 1), (3, 2), (0, 6), (6, 6)):
            told = {"start": start, "stop": stop}
            self.check_error(bench, NoPart, told, bench.take_out, "a", start, stop)
            self.check_error(bench, NoPart, told, bench.move, "a", start, stop, -1)
            self.check_error(bench, NoPart, told, bench.turn, "a", start, stop)
            self.check_error(bench, NoPart, told, bench.repeat, "a", start, stop, -1)
        for place in (-1, 6):
            self.check_error(bench, NoPlace, {"place": place}, bench.insert, "a", place, most())
        for place in (-1, 4):
            self.check_error(bench, NoPlace, {"place": place}, bench.move, "a", 1, 3, place)
        for times in (-1, MOST + 1):
            self.check_error(bench, BadTimes, {}, bench.repeat, "a", 0, 5, times)
        self.check_error(bench, TooLarge, {}, bench.insert, "a", 0, most())
        self.check_error(bench, TooLarge, {}, bench.repeat, "a", 0, 5, MOST)
        self.check_error(bench, TooLarge, {}, bench.spell, "a", [("letter", "a"), ("copy", 1, 0, MOST)])
        self.check_error(bench, BadPhrase, {"number": 1}, bench.spell, "a", [("letter", "a"), ("copy", 1, 1, MOST), ()])

    def test_errors_of_copy_part(self):
        bench = self.bench({"a": "abcde", "b": "xy"})
        self.check_error(bench, NoText, {"name": "z"}, bench.copy_part, "z", 9, 9, "y", 9)
        for other in ("b", "z"):
            self.check_error(bench, NoPart, {"start": 3, "stop": 6}, bench.copy_part, "a", 3, 6, other, 9)
        self.check_error(bench, NoText, {"name": "z"}, bench.copy_part, "a", 0, 5, "z", 9)
        for place in (-1, 3):
            self.check_error(bench, NoPlace, {"place": place}, bench.copy_part, "a", 0, 5, "b", place)
        self.check_error(bench, NoPlace, {"place": 6}, bench.copy_part, "a", 0, 5, "a", 6)
        great = Bench()
        great.set_text("a", most())
        for arguments, kind in ((("a", 0, 1, "a", 0), TooLarge), (("a", 0, MOST, "a", MOST), TooLarge),
                                (("a", 0, MOST, "a", MOST + 1), NoPlace), (("a", 1, MOST + 1, "a", 0), NoPart)):
            with self.assertRaises(kind):
                great.copy_part(*arguments)
        self.assertEqual((len(great), great.text("a").length), (1, MOST))
        great.copy_part("a", 7, 7, "a", MOST)
        self.assertEqual((len(great), great.text("a").length), (2, MOST))

    def test_texts_that_are_put_in_stay_as_they_were(self):
        text, other = letters("abc"), letters("xy")
        before = [dict(vars(row)) for row in (text, other)]
        bench = Bench()
        bench.set_text("a", text)
        bench.insert("a", 1, other)
        bench.turn("a", 0, 3)
        bench.copy_part("a", 0, 3, "a", 1)
        self.assertEqual([vars(row) for row in (text, other)], before)


class TestQuestions(BenchTest):
    def test_set_and_remove(self):
        bench = self.bench({"a": "abab", "b": "ab"})
        for name, question in QUESTIONS.items():
            self.assertIsNone(bench.set_question(name, list(question)))
            self.assertEqual(bench.question(name), question)
        self.assertEqual((bench.questions(), len(bench)), (["q", "r", "s", "t"], 6))
        self.assertIsNone(bench.remove_question("r"))
        self.assertEqual((bench.questions(), len(bench)), (["q", "s", "t"], 7))
        self.check_error(bench, NoQuestion, {"name": "r"}, bench.remove_question, "r")
        self.check_error(bench, NoQuestion, {"name": "r"}, bench.question, "r")
        bench.set_question("q", ("period", "b"))
        self.assertEqual(bench.question("q"), ("period", "b"))

    def test_errors(self):
        bench = self.bench({"a": "abab", "b": "ab"}, {"q": ("period", "a")})
        for question, reason in (((), "word"), (("sam", "z", "y"), "word"), (("same", "z"), "length"), (("period", "z", "y"), "length"),
                                 (("count",), "length")):
            for name in ("q", "r"):
                self.check_error(bench, BadQuestion, {"reason": reason}, bench.set_question, name, question)
        for question, name in ((("same", "z", "y"), "z"), (("same", "a", "y"), "y"), (("period", "z"), "z"), (("occurs", "z", "a"), "z"),
                               (("count", "same", "z"), "same")):
            self.check_error(bench, NoText, {"name": name}, bench.set_question, "r", question)

    def test_a_text_and_a_question_of_one_name(self):
        bench = self.bench({"a": "aa", "b": "a"}, {"a": ("count", "b", "a"), "b": ("period", "b")})
        self.assertEqual(bench.answers(), [("a", 2), ("b", 1)])
        bench.remove_question("b")
        bench.insert("a", 0, letters("aa"))
        self.assertEqual(bench.answers(), [("a", 4)])

    def test_answers(self):
        bench = self.bench({"a": "abab", "b": "ab"}, {"t": ("same", "a", "b"), "s": ("occurs", "b", "a"), "r": ("count", "b", "a"),
                                                      "q": ("period", "a")})
        found = bench.answers()
        self.assertEqual(found, [("q", 2), ("r", 2), ("s", 0), ("t", 2)])
        self.assertIsInstance(found, list)
        self.assertTrue(all(isinstance(row, tuple) for row in found))
        bench.set_text("b", letters("ba"))
        self.assertEqual(bench.answers(), [("q", 2), ("r", 1), ("s", 1), ("t", 0)])
        bench.set_text("b", letters(""))
        bench.set_text("a", letters(""))
        self.assertEqual(bench.answers(), [("q", None), ("r", None), ("s", None), ("t", None)])

    def test_error_classes(self):
        for kind in (BadName, NoText, NoQuestion, NoRoom, InUse, NothingLeft):
            self.assertEqual(kind.__bases__, (BenchError,))
            self.assertEqual(kind("x").name, "x")
        for kind in (BenchError, BadQuestion, BadPhrase, TooManyLetters):
            self.assertEqual(kind.__bases__, (HeldError,))


class TestUndo(BenchTest):
    def test_nothing_left(self):
        bench = Bench()
        self.check_error(bench, NothingLeft, {"name": None}, bench.undo)
        self.check_error(bench, NothingLeft, {"name": None}, bench.redo)
        bench.set_text("a", letters("ab"))
        self.check_error(bench, NothingLeft, {"name": None}, bench.redo)
        self.assertIsNone(bench.undo())
        self.check_error(bench, NothingLeft, {"name": None}, bench.undo)
        self.assertIsNone(bench.redo())
        self.check_error(bench, NothingLeft, {"name": None}, bench.redo)
        self.check_text(bench, "a", "ab")

    def test_each_kind_of_change(self):
        bench = self.bench({"a": "abcab", "b": "ab", "c": ""}, {"q": ("same", "a", "b"), "r": ("period", "a")})
        states = [self.told(bench)]
        for method, *arguments in ((bench.set_text, "d", letters("x")), (bench.set_text, "d", letters("y")), (bench.remove_text, "d"),
                                   (bench.insert, "a", 2, letters("x")), (bench.take_out, "a", 0, 2), (bench.move, "a", 0, 1, 2),
                                   (bench.turn, "a", 0, 3), (bench.repeat, "a", 0, 1, 3), (bench.spell, "a", [("copy", 0, 1, 3)]),
                                   (bench.copy_part, "a", 0, 2, "b", 1), (bench.set_question, "s", ("period", "b")),
                                   (bench.set_question, "q", ("period", "b")), (bench.remove_question, "s")):
            self.assertIsNone(method(*arguments))
            states.append(self.told(bench))
        for _ in range(2):
            self.walk(bench, states)

    def walk(self, bench, states):
        for state in states[-2::-1]:
            self.assertIsNone(bench.undo())
            self.assertEqual(self.told(bench), state)
        for state in states[1:]:
            self.assertIsNone(bench.redo())
            self.assertEqual(self.told(bench), state)

    def test_changes_that_leave_everything_as_it_was(self):
        bench = self.bench({"a": "aba", "b": ""}, {"q": ("same", "a", "b")})
        before = self.told(bench)[:3]
        calls = ((bench.set_text, "a", by_rules("aba")), (bench.insert, "a", 1, letters("")), (bench.take_out, "a", 2, 2),
                 (bench.move, "a", 0, 2, 0), (bench.turn, "a", 0, 3), (bench.repeat, "a", 0, 3, 1), (bench.repeat, "a", 1, 1, MOST),
                 (bench.spell, "a", [("copy", 0, 0, 3)]), (bench.copy_part, "b", 0, 0, "a", 1), (bench.spell, "b", ()),
                 (bench.set_question, "q", ("same", "a", "b")))
        for number, (method, *arguments) in enumerate(calls):
            self.assertEqual(len(bench), 3 + number)
            method(*arguments)
            self.assertEqual(self.told(bench)[:3], before)
        for number in range(len(calls)):
            bench.undo()
            self.assertEqual(len(bench), 2 + len(calls) - number)
            self.assertEqual(self.told(bench)[:3], before)
        bench.undo()
        self.assertEqual(bench.questions(), [])

    def test_after_a_change_nothing_to_redo(self):
        bench = self.bench({"a": "abc", "b": "x"})
        bench.undo()
        bench.set_text("c", letters("y"))
        self.check_error(bench, NothingLeft, {"name": None}, bench.redo)
        self.assertEqual(bench.texts(), ["a", "c"])
        bench.undo()
        self.assertEqual(bench.texts(), ["a"])
        bench.take_out("a", 1, 1)
        self.check_error(bench, NothingLeft, {"name": None}, bench.redo)
        bench.undo()
        with self.assertRaises(NoText):
            bench.turn("b", 0, 1)
        with self.assertRaises(NoPart):
            bench.turn("a", 0, 4)
        bench.redo()
        self.assertEqual(len(bench), 2)

    def test_benches_of_their_own(self):
        first, second = self.bench({"a": "ab"}, {"q": ("period", "a")}), Bench()
        self.assertEqual((len(first), len(second), second.texts(), second.questions()), (2, 0, [], []))
        first.answers()
        second.set_text("a", letters("ab"))
        second.set_question("q", ("period", "a"))
        second.answers()
        self.assertEqual((first.work(), second.work()), ((1, 0), (1, 0)))


class TestWork(BenchTest):
    def check_work(self, bench, decided, kept):
        bench.answers()
        self.assertEqual(bench.work(), (decided, kept))

    def test_decided_and_kept(self):
        bench = self.bench({"a": "abab", "b": "ab"}, QUESTIONS)
        self.assertEqual(bench.work(), (0, 0))
        self.check_work(bench, 4, 0)
        self.check_work(bench, 0, 4)
        bench.answers()
        self.check_work(bench, 0, 8)
        self.assertEqual(bench.work(), (0, 0))

    def test_undo_and_redo_forget_nothing(self):
        bench = self.bench({"a": "abab", "b": "ab"}, QUESTIONS)
        self.check_work(bench, 4, 0)
        bench.insert("a", 1, letters("x"))
        self.check_work(bench, 4, 0)
        bench.undo()
        self.check_work(bench, 0, 4)
        bench.redo()
        self.check_work(bench, 0, 4)
        bench.take_out("a", 1, 2)
        self.check_work(bench, 0, 4)
        bench.set_text("b", letters("xy"))
        self.check_work(bench, 3, 1)
        for name in bench.questions():
            bench.remove_question(name)
        self.check_work(bench, 0, 0)
        for name, question in QUESTIONS.items():
            bench.set_question(name + name, question)
        self.check_work(bench, 0, 4)

    def test_the_same_texts_by_other_rules(self):
        bench = self.bench({"a": "abab", "b": "ab"}, QUESTIONS)
        self.check_work(bench, 4, 0)
        for text in ways("abab"):
            for other in ways("ab"):
                bench.set_text("a", text)
                bench.set_text("b", other)
                self.check_work(bench, 0, 4)

    def test_the_same_question_twice(self):
        texts = {"a": "abab", "b": "ab", "c": "abab", "d": "baba"}
        bench = self.bench(texts, {"q": ("same", "a", "b"), "r": ("same", "c", "b"), "s": ("same", "b", "a"), "t": ("period", "a"),
                                   "u": ("period", "c"), "v": ("period", "d"), "w": ("same", "a", "a"), "x": ("same", "a", "c")})
        self.check_work(bench, 5, 3)
        bench.set_question("q", ("occurs", "a", "b"))
        self.check_work(bench, 1, 7)

    def test_texts_of_the_same_length(self):
        bench = self.bench({"a": "ab", "b": "ab"}, {"q": ("period", "a")})
        for number, (string, decided) in enumerate((("ab", 1), ("ba", 1), ("ab", 0), ("aa", 1), ("ba", 0), ("bb", 1), ("aa", 0), ("", 1),
                                                    ("a", 1), ("", 0), ("ba", 0), ("a", 0), ("b", 1))):
            bench.set_text("a", (letters, by_rules)[number % 2](string))
            self.check_work(bench, decided, 1 - decided)

    def test_empty_texts(self):
        bench = self.bench({"a": "", "b": ""}, QUESTIONS)
        self.assertEqual(bench.answers(), [(name, None) for name in sorted(QUESTIONS)])
        self.assertEqual(bench.work(), (4, 0))
        bench.set_text("a", Text([("letters", "ab"), ("power", 0, 0)]))
        self.check_work(bench, 0, 4)

    def test_an_error_is_no_work(self):
        bench = self.bench({"a": "abab"}, {"q": ("period", "a")})
        with self.assertRaises(NoText):
            bench.set_question("q", ("same", "a", "z"))
        self.check_work(bench, 1, 0)


class TestPhrasesAndStore(BenchTest):
    def test_phrases(self):
        bench = self.bench({"a": "abab", "b": "babx", "c": ""})
        self.assertEqual(bench.phrases("a", "b"), (("copy", 0, 1, 3), ("letter", "x")))
        self.assertEqual(bench.phrases("b", "a"), (("copy", 0, 1, 2), ("copy", 0, 1, 2)))
        self.assertEqual(bench.phrases("a", "a"), (("copy", 0, 0, 4),))
        self.assertEqual(bench.phrases("a", "c"), ())
        self.assertEqual(bench.phrases("c", "a"), (("letter", "a"), ("letter", "b"), ("copy", 1, 0, 2)))
        for name, other in (("a", "b"), ("b", "a"), ("c", "b"), ("b", "c"), ("a", "a")):
            cut = shortest_cut([bench.text(name), bench.text(other)])
            self.assertEqual(bench.phrases(name, other), cut[1])
            before, many = string_of(bench.text(other)), len(bench)
            bench.spell(name, bench.phrases(name, other))
            self.check_text(bench, name, before)
            bench.undo()
            self.assertEqual(len(bench), many)

    def test_errors_of_phrases(self):
        bench = self.bench({"a": "a" * 64, "b": "b"})
        self.check_error(bench, NoText, {"name": "z"}, bench.phrases, "z", "y")
        self.check_error(bench, NoText, {"name": "y"}, bench.phrases, "a", "y")
        bench.repeat("b", 0, 1, 4032)
        self.assertEqual(bench.phrases("a", "b"), (("letter", "b"), ("copy", 1, 0, 4031)))
        bench.insert("b", 0, letters("x"))
        self.check_error(bench, TooManyLetters, {}, bench.phrases, "a", "b")
        self.check_error(bench, TooManyLetters, {}, bench.phrases, "b", "b")
        self.check_error(bench, NoText, {"name": "z"}, bench.phrases, "b", "z")

    def test_store(self):
        bench = Bench()
        self.assertEqual(bench.store(), (0, (), ()))
        bench.set_text("b", letters("abab"))
        self.assertEqual(bench.store(), store_of([letters("abab")]))
        bench.set_text("a", by_rules("ba"))
        bench.set_text("c", letters(""))
        self.assertEqual(bench.store(), store_of([letters("ba"), letters("abab"), letters("")]))
        bench.remove_text("b")
        self.assertEqual(bench.store(), store_of([letters("ba"), letters("")]))
        bench.undo()
        self.assertEqual(len(bench.store()[2]), 3)

    def test_great_texts(self):
        bench = Bench()
        bench.set_text("one", letters("ab"))
        bench.copy_part("one", 0, 2, "one", 2)
        bench.repeat("one", 0, 4, MOST // 4)
        bench.set_text("two", bench.text("one"))
        bench.spell("two", [("letter", "a"), ("letter", "b"), ("copy", 1, 0, MOST - 2)])
        for name, question in (("q", ("same", "one", "two")), ("r", ("period", "two")), ("s", ("count", "two", "one"))):
            bench.set_question(name, question)
        self.assertEqual(bench.answers(), [("q", None), ("r", 2), ("s", 1)])
        self.assertEqual(bench.store()[1], (("letter", "a"), ("letter", "b"), ("pair", 0, 1), ("run", 2, MOST // 2)))
        bench.turn("one", 0, MOST)
        self.assertEqual(bench.answers(), [("q", 0), ("r", 2), ("s", 0)])
        self.assertEqual(bench.work(), (5, 1))
        bench.turn("one", 0, MOST)
        bench.answers()
        self.assertEqual(bench.work(), (0, 3))
