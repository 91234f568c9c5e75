"""The package keeps LANGUAGE.md, as far as tests/language.py sees it, and that check sees faults."""

import os
import unittest

from tests.language import faults_of

FOLDER = os.path.join(os.path.dirname(os.path.dirname(os.path.abspath(__file__))), "boundonce")

# A line or two each, with the rule that it breaks.
WRONG = [
    ("L2", "import os\n"),
    ("L2", "from os import path\n"),
    ("L2", "from .names import is_name\n"),
    ("L2", "from boundonce.names import *\n"),
    ("L2", "def f():\n    from boundonce.names import is_name\n    return is_name(1)\n"),
    ("L2", "A = 1\nfrom boundonce.names import is_name\n"),
    ("L16", "from boundonce.names import nothing\n"),
    ("L16", "from boundonce.other import f\n"),
    ("L3", "A = len('abc')\n"),
    ("L3", "A, B = 1, 2\n"),
    ("L3", "A = [[1], [2]]\n"),
    ("L3", "print(1)\n"),
    ("L3", "if True:\n    A = 1\n"),
    ("L15", "A = 1\nA = 2\n"),
    ("L15", "def f(id):\n    return id\n"),
    ("L15", "from boundonce.names import is_name\n\n\ndef f():\n    is_name = 1\n    return is_name\n"),
    ("L4", "def f(x=[]):\n    return x\n"),
    ("L4", "def wrap(f):\n    return f\n\n\n@wrap\ndef g():\n    return 1\n"),
    ("L21", "def f(x: int):\n    return x\n"),
    ("L21", "def f() -> int:\n    return 1\n"),
    ("L10", "def f():\n" + "    x = 1\n" * 40),
    ("L10", "A = '" + "a" * 120 + "'\n"),
    ("L10", "# a line\n" * 401),
    ("L5", "class A:\n    def __hash__(self):\n        return 1\n"),
    ("L18", "class A:\n    def f(self):\n        return 1\n\n    def f(self):\n        return 2\n"),
    ("L18", "class A:\n    pass\n\n\ndef f():\n    return [A]\n"),
    ("L18", "def f(x):\n    return x.nowhere\n"),
    ("L26", "class A:\n    def to_bytes(self):\n        return 1\n"),
    ("L26", "class A:\n    def __init__(self):\n        self.items = 1\n"),
    ("L28", "class A:\n    def __init__(self):\n        return None\n"),
    ("L6", "def f():\n    global x\n    x = 1\n"),
    ("L7", "def f():\n    return 1.5\n"),
    ("L7", "def f(x):\n    return x / 2\n"),
    ("L7", "def f(xs):\n    return any(x for x in xs)\n"),
    ("L8", "def f(x):\n    return hash(x)\n"),
    ("L8", "def f(x):\n    print(x)\n"),
    ("L12", "def f(xs):\n    return [_ for _ in xs]\n"),
    ("L12", "def __f(x):\n    return x\n"),
    ("L17", "def law(x):\n    return x\n"),
    ("L17", "def f(x):\n    return x.f_back\n"),
    ("L17", "def f(register):\n    return register\n"),
    ("L17", "A = 'enum'\n"),
    ("L19", "def f(x):\n    try:\n        return x[0]\n    except TypeError:\n        return 1\n"),
    ("L19", "def f(x):\n    try:\n        return x[0]\n    except:\n        return 1\n"),
    ("L19", "def f(x):\n    raise x\n"),
    ("L20", "def f(x, y):\n    return x is y\n"),
    ("L22", "def f(x):\n    return int(x, base=2)\n"),
    ("L23", "def f(x, y):\n    z = zip(x, y)\n    return z\n"),
    ("L23", "def f(x):\n    return x.items()\n"),
    ("L23", "def f(x):\n    return 1 in x.values()\n"),
    ("L23", "def f(x):\n    for y in x:\n        x.append(y)\n"),
    ("L23", "def f(x):\n    for y in x:\n        x[y] = 1\n"),
    ("L24", "def f(x):\n    return set(x)\n"),
    ("L24", "def f(x):\n    return [y for y in {1, x}]\n"),
    ("L25", "def f(x):\n    return x.format(1)\n"),
    ("L27", "A = '100%'\n"),
    ("L27", "A = '\\x41'\n"),
    ("L27", "def f(x, y):\n    return x ** y\n"),
    ("L14", "A = '\u00e9'\n"),
]

RIGHT = '''"""A file as it should be."""

from boundonce.names import is_name

WORDS = ("a", "b")


class Box:
    """A box."""

    def __init__(self, rows=()):
        self.rows = list(rows)

    @property
    def many(self):
        """How many rows."""
        return len(self.rows)

    def __eq__(self, other):
        return isinstance(other, Box) and self.rows == other.rows


def different(things):
    """Return whether things differ and are names."""
    return len(set(things)) == len(things) and all([is_name(thing) for thing in things])
'''


def package_files():
    """Return the texts of the package's files by name."""
    files = {}
    for name in sorted(os.listdir(FOLDER)):
        if name != "__pycache__":
            with open(os.path.join(FOLDER, name), encoding="utf-8", newline="") as file:
                files[name] = file.read()
    return files


def made(text):
    """Return the files of a small package in which one file has this text."""
    return {"__init__.py": "", "names.py": "def is_name(thing):\n    return True\n", "probe.py": text}


class LanguageTest(unittest.TestCase):
    def test_the_package_keeps_the_rules(self):
        self.assertEqual(faults_of(package_files()), [])

    def test_a_right_file_has_no_fault(self):
        self.assertEqual(faults_of(made(RIGHT)), [])

    def test_wrong_files_are_seen(self):
        for rule, text in WRONG:
            with self.subTest(rule=rule, text=text[:60]):
                rules = [fault[0] for fault in faults_of(made(text)) if fault[1] == "probe.py"]
                self.assertIn(rule, rules)

    def test_wrong_files_and_names_are_seen(self):
        self.assertIn(("L1", "notes.txt", 0), faults_of({**made(RIGHT), "notes.txt": ""}))
        self.assertIn(("L14", "test_it.py", 0), faults_of({**made(RIGHT), "test_it.py": ""}))
        self.assertIn(("L14", "len.py", 0), faults_of({**made(RIGHT), "len.py": ""}))
        self.assertIn(("L14", "", 0), faults_of({"names.py": ""}))

    def test_a_ring_of_imports_is_seen(self):
        one = "from boundonce.two import g\n\n\ndef f():\n    return g()\n"
        two = "from boundonce.one import f\n\n\ndef g():\n    return f()\n"
        self.assertIn(("L16", "one.py", 1), faults_of({"__init__.py": "", "one.py": one, "two.py": two}))
