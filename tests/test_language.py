"""The package keeps to LANGUAGE.md; and tests/language.py, which looks it through, finds what it has to find."""

import os
import unittest

import tendwall
from tests.language import faults_of

FOLDER = os.path.dirname(os.path.abspath(tendwall.__file__))

GOOD = '''"""A file that keeps to the rules."""

from tendwall.refusals import Wrong

MOST = 3
LEAST = -3
SIZES = (1, 2, (3, "a"))


class Holder:
    """Holds numbers."""

    def __init__(self):
        self.numbers = []

    def take_on(self, number):
        """Takes a number on."""
        if number is None or number > MOST:
            raise Wrong()
        self.numbers.append(number)


def added(numbers, start=0):
    """The sum of the numbers."""
    found = start
    for place, number in enumerate(numbers):
        found += number * SIZES[place % 2]
    return found + sum([number for number in numbers if number > LEAST])


TABLE = ((added, 1), (added, 2))


def tried(numbers):
    """Tries it."""
    holder = Holder()
    try:
        holder.take_on(max(numbers, default=0))
    except Wrong as wrong:
        return [wrong.code]
    return list(range(added(numbers)))
'''

# What stands ahead of the rows that are tried at a file's top, and what stands behind them.
HEAD = '''"""A file."""

from tendwall.refusals import Wrong
'''
TAIL = '''

def added(numbers):
    """The sum of the numbers."""
    return sum(numbers)
'''

WRONG = b'''"""Errors."""


class Wrong(Exception):
    """An error."""

    def __init__(self):
        self.code = 7
'''

# A rule, and rows at a file's top that break it.
TOPS = (
    ("L2", "import re"),
    ("L2", "from re import match"),
    ("L2", "from .refusals import Wrong"),
    ("L2", "from tendwall.refusals import *"),
    ("L3", "MOST = len((1, 2))"),
    ("L3", "if True:\n    MOST = 1"),
    ("L3", "SIZES = [[1], [2]]"),
    ("L3", "print(1)"),
    ("L5", "class Pair:\n    size = 2"),
    ("L5", "class Pair(Wrong, Exception):\n    pass"),
    ("L8", "def sum(numbers):\n    return 0"),
    ("L8", "list = 3"),
    ("L10", "MOST = 1" + " " * 120),
    ("L10", "def few():\n" + "    pass\n" * 40),
    ("L10", "\n" * 400),
    ("L12", "most_\u00e4 = 1"),
    ("L12", "def few():\n    _ = 1\n    return _"),
    ("L12", "def few(_hidden):\n    return 1"),
    ("L14", "# \u00fc"),
    ("L15", "MOST = 1\nMOST = 2"),
    ("L15", "MOST = 1\n\n\ndef few():\n    MOST = 2\n    return MOST"),
    ("L15", "SIZES = [1]\n\n\ndef few():\n    SIZES.append(2)"),
    ("L15", "SIZES = [1]\n\n\ndef few():\n    SIZES[0] = 2"),
    ("L15", "SIZES = (1, 2)\n\n\ndef few():\n    return SIZES"),
    ("L16", "from tendwall.refusals import Missing"),
    ("L16", "from tendwall.missing import Wrong"),
    ("L16", "from tendwall.shop import answers"),
    ("L16", "def answers(calls):\n    return []"),
    ("L17", "# of this type"),
    ("L17", "# dataclasses"),
    ("L18", "class Pair:\n    def one(self):\n        return 1\n\n    def one(self):\n        return 2"),
    ("L18", "class Pair:\n    def one(self):\n        self.one = 1"),
    ("L18", "class Pair(StopIteration):\n    pass"),
    ("L18", "class Pair:\n    pass\n\n\ndef few():\n    return [Pair]"),
    ("L21", "def few() -> int:\n    return 1"),
    ("L21", "def few(one: int):\n    return one"),
    ("L26", "class Pair:\n    def update(self):\n        return 1"),
    ("L26", "class Pair:\n    def __init__(self):\n        self.items = 1"),
    ("L28", "class Pair:\n    def __init__(self):\n        return None"),
    ("L28", "class Pair:\n    def __len__(self):\n        return 1"),
)

# A rule, and rows within a function of (numbers, other) that break it.
BODIES = (
    ("L4", "return lambda: 1"),
    ("L4", "def inner():\n    return 1"),
    ("L6", "one = other = 1"),
    ("L6", "one, two = numbers"),
    ("L6", "for k in numbers:\n    pass\nelse:\n    pass"),
    ("L6", "while other:\n    other = 0\nelse:\n    pass"),
    ("L6", "assert numbers"),
    ("L6", "del numbers"),
    ("L6", "numbers"),
    ("L6", "with other:\n    pass"),
    ("L6", "global numbers_of"),
    ("L6", "try:\n    other = 1\nfinally:\n    other = 2"),
    ("L7", "return 1.5"),
    ("L7", "return b'a'"),
    ("L7", "return other / 2"),
    ("L7", "return {k: 1 for k in numbers}"),
    ("L7", "return sum(k for k in numbers)"),
    ("L7", "return added(*numbers)"),
    ("L7", "if (one := other):\n    return one"),
    ("L7", "return [j for k in numbers for j in k]"),
    ("L8", "return round(other)"),
    ("L8", "return missing"),
    ("L8", "return numbers.__class__"),
    ("L9", "print(numbers)"),
    ("L9", "return open(other)"),
    ("L11", "try:\n    other = 1\nexcept Wrong as wrong:\n    return str(wrong)"),
    ("L13", "return other in {1, 2, 3}"),
    ("L13", "return [lambda k: 1, lambda k: 2]"),
    ("L15", "max = 1\nreturn max"),
    ("L15", "hash = 1\nreturn hash"),
    ("L17", "return numbers.mro"),
    ("L17", "return other.f_back"),
    ("L17", "return getattr(other, 'one')"),
    ("L18", "Holder.size = 1"),
    ("L19", "raise ValueError('no')"),
    ("L19", "raise other"),
    ("L19", "try:\n    other = 1\nexcept Exception:\n    return 1"),
    ("L19", "try:\n    other = 1\nexcept:\n    return 1"),
    ("L20", "return numbers is other"),
    ("L20", "return numbers is not 1"),
    ("L22", "one = len\nreturn one"),
    ("L22", "return sorted(numbers, strict=True)"),
    ("L22", "return int(other, base=2)"),
    ("L23", "one = range(3)\nreturn one"),
    ("L23", "return other.items()"),
    ("L23", "for k in numbers:\n    numbers.append(k)"),
    ("L23", "for k, number in enumerate(numbers):\n    numbers[k] = number + 1"),
    ("L23", "for number in other.numbers:\n    other.numbers.pop()"),
    ("L24", "return set(numbers)"),
    ("L24", "return {1, 2}"),
    ("L25", "return numbers.sort()"),
    ("L25", "return numbers.append"),
    ("L25", "one = other.take_on\nreturn one"),
    ("L27", "return 2 ** other"),
    ("L27", "return chr(other)"),
    ("L27", "return '%'"),
    ("L27", "return '\\x41'"),
    ("L27", "return r'a'"),
)


def sources_of_package():
    """The package's files by their path within it; what Python keeps of its own work is passed over."""
    sources = {}
    for folder, within, names in os.walk(FOLDER):
        within[:] = sorted(name for name in within if name != "__pycache__")
        for name in names:
            path = os.path.join(folder, name)
            with open(path, "rb") as file:
                sources[os.path.relpath(path, FOLDER).replace(os.sep, "/")] = file.read()
    return sources


def faults_in(text):
    """What a small package breaks whose file good.py has this text."""
    shop = '"""Calls."""\n\nfrom tendwall.good import added\n\n\ndef answers(calls):\n    return [added(calls)]\n'
    sources = {"__init__.py": b'"""The package."""\n', "refusals.py": WRONG, "good.py": text.encode("utf-8"),
               "shop.py": shop.encode("utf-8")}
    return faults_of(sources, "tendwall", [("shop.py", "answers")])


class Program(unittest.TestCase):
    def test_the_package_keeps_to_the_rules(self):
        self.assertEqual(faults_of(sources_of_package(), "tendwall", [("shop.py", "answers")]), [])


class Finding(unittest.TestCase):
    def finds(self, rule, faults):
        self.assertTrue(any(fault.startswith(rule + " ") for fault in faults), faults)

    def test_nothing_in_a_good_package(self):
        self.assertEqual(faults_in(GOOD), [])
        self.assertEqual(faults_in(HEAD + TAIL), [])

    def test_rows_at_the_top(self):
        for rule, rows in TOPS:
            with self.subTest(rows=rows):
                self.finds(rule, faults_in(HEAD + rows + "\n" + TAIL))

    def test_rows_within_a_function(self):
        for rule, rows in BODIES:
            body = "".join("    " + row + "\n" for row in rows.split("\n"))
            with self.subTest(rows=rows):
                self.finds(rule, faults_in(GOOD + '\n\ndef last(numbers, other):\n    """The last."""\n' + body))

    def test_files(self):
        for rule, path in (("L1", "notes.txt"), ("L1", "inner/one.py"), ("L14", "Wall.py"), ("L14", "tests.py"),
                           ("L14", "test_one.py"), ("L14", "len.py"), ("L14", "enum.py")):
            with self.subTest(path=path):
                self.finds(rule, faults_of({"__init__.py": b'""""""\n', path: GOOD.encode("utf-8")}, "tendwall"))

    def test_a_file_that_is_no_python(self):
        self.finds("L1", faults_in("def :\n"))

    def test_no_init_file(self):
        self.finds("L14", faults_of({"refusals.py": WRONG}, "tendwall"))

    def test_an_interface_that_is_missing(self):
        self.finds("L16", faults_of({"__init__.py": b'"""It."""\n', "shop.py": b'"""It."""\n'}, "tendwall",
                                    [("shop.py", "answers")]))


if __name__ == "__main__":
    unittest.main()
