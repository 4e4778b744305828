"""The rules L1 to L28: the files of the package keep them, and a file that breaks one is found."""

import pathlib
import unittest

from tests.language import faults_of

FOLDER = pathlib.Path(__file__).parent.parent / "shortheld"

RIGHT = '''"""A file."""

from shortheld.errors import Wrong

MOST = 10 ** 3


class Box:
    """A box."""

    def __init__(self, rows, most=1000):
        self.rows = list(rows)
        self.most = most + MOST

    def __len__(self):
        return len(self.rows)

    def many(self):
        """How many."""
        return len(self.rows)


def told(rows, *, limit=16):
    """What is told."""
    if len(rows) > limit:
        raise Wrong("too many")
    box = Box(rows)
    return sorted(set([row for row in box.rows if row is not None])) + [box.many() + box.most]
'''

ERRORS = '''class Wrong(ValueError):
    """Wrong."""
'''

# For each rule, pieces of code that break it: rows of a function, or, with a line break at the end, of a module.
BROKEN = {
    "L2": ("import math\n", "from math import gcd\n", "from .errors import Wrong\n", "from shortheld.errors import *\n",
           "from shortheld.errors import Wrong as Other\n", "X = 1\nfrom shortheld.errors import Wrong\n"),
    "L3": ("X = len('abc')\n", "X = Y = 1\n", "for x in (1, 2):\n    pass\n", "X, Y = 1, 2\n"),
    "L4": ("def f(*rest):\n    return rest\n", "def f(**more):\n    return more\n", "def f(rows=[]):\n    return rows\n",
           "def f():\n    def g():\n        return 1\n    return g()\n", "def f(x, /):\n    return x\n"),
    "L5": ("class A:\n    x = 1\n", "class A:\n    def __eq__(self, other):\n        return True\n",
           "class A(ValueError, KeyError):\n    pass\n"),
    "L6": ("try:\n        x = 1\n    except KeyError:\n        x = 2", "assert x", "del x", "x == 1", "with x:\n        pass",
           "global told", "match x:\n        case 1:\n            pass"),
    "L7": ("x = 1.5", "x = 4 / 2", "x = [k for k in x] @ x", "x = {1: 2 for k in (y := x)}", "x = f'{x:>5}'", "x = b'a'",
           "return sum(k for k in x)", "yield x", "return max(*x)"),
    "L8": ("x = round(x)", "x = filter(None, x)", "x = unknown"),
    "L9": ("print(x)",),
    "L10": ("x = 1\n    " * 41 + "x = 1", "x = " + "1 + " * 40 + "1", "\n" * 400),
    "L11": ("def f(x):\n    return f(x)\n",),
    "L12": ("_wallet = 1", "__x = 1", "_cold = 2", "_ = 1\n    x = _"),
    "L13": ("x = len({1, 2, 3})", "x = sorted({k for k in x})"),
    "L14": ("x = '\u00e4'", "x = 1\t"),
    "L15": ("list = 1", "X = 1\nX = 2\n", "X = [[1]]\n", "X = [1]\n\n\ndef f(x):\n    X.append(x)\n", "told = 1\n    x = told", "max = x",
            "def f(id):\n    return id\n"),
    "L16": ("from shortheld.errors import NotThere\n", "from shortheld.nothere import Wrong\n"),
    "L17": ("x.register()", "vars = 1", "x = 'enum'", "x = [elements for elements in x]"),
    "L18": ("x = Box", "x = [Box]", "Box.many = 1", "x.nobody = x.no_one",
            "class A:\n    def __init__(self):\n        self.f = 1\n\n    def f(self):\n        return 1\n",
            "class A:\n    def f(self):\n        return 1\n\n    def f(self):\n        return 2\n"),
    "L19": ("raise x", "raise ValueError", "raise Wrong('a') from None", "raise RuntimeError('a')"),
    "L20": ("x = x is x", "x = x is not told"),
    "L21": ("x: int = 1", "def f(x: int):\n    return x\n", "def f(x) -> int:\n    return x\n"),
    "L22": ("x = [len]", "x = x(1)(2)", "x = print", "x = sum(x, key=x)", "x = (lambda: 1)()"),
    "L23": ("x = range(3)", "x = zip(x, x)", "x = {}.items()", "for k in x:\n        x.append(k)", "for k in x:\n        x[k] = 1",
            "for k, y in enumerate(x):\n        x.pop()", "for k in x.items():\n        x.pop(k)"),
    "L24": ("x = set(x)", "for k in set(x):\n        pass", "x = sorted(set(x), key=len)"),
    "L25": ("x = x.sort()", "x = x.format(1)", "x = x.bit_count()", "x = 'a'.split(sep='b')", "x = x.append"),
    "L26": ("x.items = 1", "x.sort = 1", "x.real = 1"),
    "L27": ("x = 2 ** x", "x = 2 ** 65", "x = '%'", "x = '\\x41'", "x = '__x'", "x = 2 ** -1"),
    "L28": ("class A:\n    def __init__(self):\n        return\n", "class A:\n    def __len__(self):\n        return 1 + 1\n",
            "class A:\n    def __len__(self):\n        self.n = 1\n        return len([])\n", "def __len__(x):\n    return len(x)\n"),
}


def broken(code):
    """The right file with a piece of code."""
    if not code.endswith("\n"):
        return RIGHT + "\n\ndef other(x):\n    " + code + "\n"
    if code.startswith(("import", "from")):
        return RIGHT.replace("\n\nMOST", "\n" + code + "\n\nMOST")
    return RIGHT + "\n\n" + code


class TestPackage(unittest.TestCase):
    def test_no_faults(self):
        files = {path.name: path.read_text(encoding="utf-8") for path in FOLDER.glob("*.py")}
        self.assertIn("text.py", files)
        self.assertEqual(faults_of(files), [])

    def test_only_files_of_the_package(self):
        """L1 and L14: the folder has plain files alone, an `__init__.py` among them."""
        names = [path.name for path in FOLDER.iterdir() if path.name != "__pycache__"]
        self.assertTrue(all(name.endswith(".py") for name in names))
        self.assertIn("__init__.py", names)
        self.assertLessEqual(len(names), 100)


class TestFaults(unittest.TestCase):
    def rules_of(self, source, name="box.py"):
        return {rule for rule, _, _ in faults_of({"errors.py": ERRORS, name: source})}

    def test_a_right_file(self):
        self.assertEqual(self.rules_of(RIGHT), set())

    def test_broken_rules(self):
        for rule, codes in BROKEN.items():
            for code in codes:
                self.assertIn(rule, self.rules_of(broken(code)), code)

    def test_names_of_files(self):
        self.assertIn("L1", self.rules_of(RIGHT, "Box.py"))
        self.assertIn("L14", self.rules_of(RIGHT, "len.py"))
        self.assertIn("L14", self.rules_of(RIGHT, "test_box.py"))

    def test_all_rules(self):
        """Each rule has a piece of code that breaks it, but L1, which is about the folder."""
        self.assertEqual(sorted(BROKEN, key=lambda rule: int(rule[1:])), [f"L{number}" for number in range(2, 29)])

    def test_files_that_import_from_each_other(self):
        files = {"one.py": "from shortheld.two import X\n\nY = 1\n", "two.py": "from shortheld.one import Y\n\nX = 1\n"}
        self.assertIn("L16", {rule for rule, _, _ in faults_of(files)})
