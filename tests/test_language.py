import tempfile
import unittest
from pathlib import Path

from language import faults

FOLDER = Path(__file__).resolve().parent.parent / "lastfew"

GOOD = {
    "__init__.py": '"""A package."""\n',
    "errors.py": '"""Errors."""\n\n\nclass Refused(ValueError):\n    pass\n',
    "things.py": '''"""Things."""

from few.errors import Refused

LIMIT = 12
LOWEST = -3
NAMES = ("a", "b")


def double(number, more=0):
    # Written out, so that it is easy to follow.
    return number * 2 + more


TABLE = {"double": double}


class Bag:
    def __init__(self, size):
        self.size = size
        self.held = []

    def put(self, thing):
        if not isinstance(thing, int) or thing is None:
            raise Refused(f"no number: {thing!r}")
        self.held.append(thing)
        self.held = self.held[-self.size:]

    def told(self, name):
        if name not in TABLE:
            raise Refused("no such name")
        return [TABLE[name](thing) for thing in self.held if thing > 0]


def spread(bag):
    times = {}
    for place, thing in enumerate(bag.held):
        times[thing] = times.get(thing, 0) + place ** 2
    for thing in list(times):
        times.pop(thing)
    try:
        bag.put(1)
    except Refused as error:
        raise Refused("still none") from error
    return len(set(bag.held)), sorted(times.items(), key=lambda pair: pair[1]), max(times.values())


def read(text):
    try:
        return int(text)
    except ValueError:
        return None
''',
}

# Each: the rule, and a file of the package that leaves it.
BAD = [
    ("L2", "from os import path\n"),
    ("L2", "from few.errors import *\n"),
    ("L2", "from .errors import Refused\n"),
    ("L2", "def f():\n    from few.errors import Refused\n    return Refused()\n"),
    ("L3", "print(1)\n"),
    ("L3", "X = len('abc')\n"),
    ("L3", "X = 1\nif X:\n    pass\n"),
    ("L3", "for x in (1, 2):\n    pass\n"),
    ("L4", "def f(*rest):\n    return rest\n"),
    ("L4", "def f(**rest):\n    return rest\n"),
    ("L4", "def f(*, a):\n    return a\n"),
    ("L4", "def f(a=len('a')):\n    return a\n"),
    ("L4", "def g(a):\n    return a\n\n\n@g\ndef f():\n    return 1\n"),
    ("L4", "def f(a):\n    b = a\n\n    def g():\n        b = 2\n        return b\n    return g() + b\n"),
    ("L5", "class A:\n    X = 1\n"),
    ("L5", "class A(list):\n    pass\n"),
    ("L6", "def f(a):\n    with a:\n        pass\n"),
    ("L6", "def f(a):\n    assert a\n"),
    ("L6", "def f(a):\n    del a[0]\n"),
    ("L6", "def f(a):\n    for b in a:\n        pass\n    else:\n        return 1\n"),
    ("L6", "def f(a):\n    b = c = a\n    return b + c\n"),
    ("L6", "def f(a):\n    a + 1\n"),
    ("L6", "def f(a):\n    b, c = a\n    return b + c\n"),
    ("L6", "def f(a):\n    try:\n        return a\n    finally:\n        a.clear()\n"),
    ("L6", "def f():\n    global X\n"),
    ("L7", "def f(a):\n    return a / 2\n"),
    ("L7", "def f():\n    return 1.5\n"),
    ("L7", "def f():\n    return b'a'\n"),
    ("L7", "def f(a):\n    return sum(b for b in a)\n"),
    ("L7", "def f(a):\n    return {b: 1 for b in a}\n"),
    ("L7", "def f(a):\n    return len({b for b in a})\n"),
    ("L7", "def f(a):\n    return [b + c for b in a for c in a]\n"),
    ("L7", "def f(a):\n    return [*a]\n"),
    ("L7", "def f(a):\n    return f'{a + 1}'\n"),
    ("L7", "def f(a):\n    return f'{a:>3}'\n"),
    ("L7", "def f(a):\n    if (b := a):\n        return b\n"),
    ("L7", "def f(a):\n    yield a\n"),
    ("L8", "def f(a):\n    return round(a)\n"),
    ("L8", "def f(a):\n    return hash(a)\n"),
    ("L8", "def f(a):\n    print(a)\n"),
    ("L8", "def f(a):\n    return a.format\n"),
    ("L8", "def f(a):\n    return a.__class__\n"),
    ("L8", "def f():\n    return unknown\n"),
    ("L10", "def f(a):\n" + "    a = a + 1\n" * 39 + "    return a\n"),
    ("L10", "# a\n" * 401),
    ("L10", "# " + "a" * 119 + "\n"),
    ("L10", "def f(a):\n\treturn a\n"),
    ("L12", "def f(_a):\n    return 1\n"),
    ("L12", "def f(a):\n    for _ in a:\n        pass\n"),
    ("L12", "class A:\n    def _hidden(self):\n        return 1\n"),
    ("L13", "def f():\n    a = {1, 2, 3}\n    return 1\n"),
    ("L13", "X = 1\n\n\ndef f(a):\n    return a(lambda b: b, lambda b: 1)\n"),
    ("L14", "# \u00e9\n"),
    ("L15", "X = 1\nX = 2\n"),
    ("L15", "X = [[1], [2]]\n"),
    ("L15", "X = [1]\n\n\ndef f():\n    X.append(1)\n"),
    ("L15", "X = {1: 2}\n\n\ndef f():\n    return X\n"),
    ("L15", "X = {1: 2}\n\n\ndef f(a):\n    a(X)\n"),
    ("L15", "def f(map):\n    return map\n"),
    ("L15", "def f(a):\n    hash = a\n    return hash\n"),
    ("L15", "def sum(a):\n    return a\n"),
    ("L15", "class A:\n    pass\n\n\ndef f(A):\n    return 1\n"),
    ("L15", "from few.errors import Refused\n\n\ndef f():\n    Refused = 1\n    return Refused\n"),
    ("L15", "def f():\n    class A:\n        pass\n    return A()\n"),
    ("L16", "import sys\n"),
    ("L16", "from few import errors\n"),
    ("L16", "from few.errors import Missing\n"),
    ("L16", "from few.things import Refused\n"),
    ("L16", "from few.bad import f\n\n\ndef f():\n    return 1\n"),
    ("L17", "# its type\n"),
    ("L17", "def f(a):\n    return a.register\n"),
    ("L17", "def f(a):\n    return getattr(a, 'b')\n"),
    ("L17", "def f(a):\n    return a.f_back\n"),
    ("L17", "# predataclassed\n"),
    ("L18", "class A:\n    pass\n\n\ndef f():\n    return A\n"),
    ("L18", "class A:\n    pass\n\n\ndef f():\n    A.b = 1\n"),
    ("L18", "class A:\n    def b(self):\n        return 1\n\n    def b(self):\n        return 2\n"),
    ("L18", "class A:\n    def held(self):\n        return 1\n"),
    ("L18", "class A(StopIteration):\n    pass\n"),
    ("L19", "def f(a):\n    try:\n        return a()\n    except Exception:\n        return 1\n"),
    ("L19", "def f(a):\n    try:\n        return a()\n    except:\n        return 1\n"),
    ("L19", "def f(a):\n    try:\n        return f(a)\n    except ValueError:\n        return 1\n"),
    ("L19", "def f(a):\n    try:\n        return a[int('1')]\n    except IndexError:\n        return 1\n"),
    ("L19", "def f(a):\n    raise a\n"),
    ("L19", "def f():\n    raise\n"),
    ("L19", "def f(a):\n    raise ValueError('b') from a\n"),
    ("L20", "def f(a, b):\n    return a is b\n"),
    ("L21", "def f(a: int):\n    return a\n"),
    ("L21", "def f(a) -> int:\n    return a\n"),
    ("L21", "def f(a):\n    b: int = a\n    return b\n"),
    ("L22", "def f(a):\n    b = len\n    return b(a)\n"),
    ("L22", "def f(a):\n    return isinstance(a, set)\n"),
    ("L22", "def f(a):\n    return int(a, base=3)\n"),
    ("L22", "def f(a, b):\n    return sorted(a, reverse=b)\n"),
    ("L22", "def f(a):\n    return a.split(sep='b')\n"),
    ("L22", "def f(a, b):\n    return sorted(a, key=b())\n"),
    ("L23", "def f(a):\n    b = a.items()\n    return list(b)\n"),
    ("L23", "def f(a):\n    return range(a)\n"),
    ("L23", "def f(a):\n    for b in a:\n        a.append(b)\n"),
    ("L23", "def f(a):\n    for b, c in a.items():\n        a[b] = c + 1\n"),
    ("L24", "def f(a):\n    b = set(a)\n    return len(b)\n"),
    ("L24", "def f(a):\n    return [b for b in set(a)]\n"),
    ("L25", "def f(a):\n    a.sort()\n"),
    ("L25", "def f(a):\n    return a.casefold()\n"),
    ("L25", "def f(a):\n    b = a.append\n    b(1)\n"),
    ("L26", "class A:\n    def sort(self):\n        return 1\n"),
    ("L26", "class A:\n    def __init__(self):\n        self.items = 1\n"),
    ("L27", "def f(n):\n    return 2 ** n\n"),
    ("L27", "def f():\n    return 2 ** 65\n"),
    ("L27", "def f():\n    return 'a % b'\n"),
    ("L27", "def f(a):\n    return chr(a)\n"),
    ("L27", "def f():\n    return '\\x41'\n"),
    ("L27", "X = 1" + "0" * 900 + "\n"),
    ("L28", "class A:\n    def __init__(self):\n        return None\n"),
    ("L28", "class A:\n    def __len__(self):\n        return 1\n"),
]

# Each: the rule, and a file's name that leaves it.
BAD_FILES = [
    ("L1", "words.txt"),
    ("L1", "two-words.py"),
    ("L14", "Words.py"),
    ("L14", "sum.py"),
    ("L14", "test_words.py"),
    ("L14", "tests.py"),
    ("L14", "enum.py"),
    ("L14", "inner/words.py"),
]


def faults_of(files):
    with tempfile.TemporaryDirectory() as folder:
        package = Path(folder) / "few"
        for name, text in files.items():
            path = package / name
            path.parent.mkdir(parents=True, exist_ok=True)
            path.write_text(text, encoding="utf-8")
        return faults(package)


def rules_of(found):
    return {line.split(": ")[1] for line in found}


class PackageTest(unittest.TestCase):
    def test_the_package_keeps_to_the_language(self):
        self.assertEqual(faults(FOLDER), [])

    def test_every_file_of_the_package_was_read(self):
        names = {path.name for path in FOLDER.glob("*.py")}
        told = {"__init__.py", "errors.py", "words.py", "windows.py", "groups.py", "saves.py"}
        self.assertLessEqual(told, names)


class CheckerTest(unittest.TestCase):
    """Without these, a checker that sees nothing would pass."""

    def test_what_keeps_to_the_rules_is_not_told(self):
        self.assertEqual(faults_of(GOOD), [])

    def test_what_leaves_a_rule_is_told(self):
        for rule, text in BAD:
            with self.subTest(rule=rule, text=text[:200]):
                self.assertIn(rule, rules_of(faults_of({**GOOD, "bad.py": text})))

    def test_files_that_leave_a_rule_are_told(self):
        for rule, name in BAD_FILES:
            with self.subTest(rule=rule, name=name):
                self.assertIn(rule, rules_of(faults_of({**GOOD, name: ""})))

    def test_a_circle_through_the_folder_is_told(self):
        first = "from few.things import LIMIT\n"
        self.assertIn("L16", rules_of(faults_of({**GOOD, "__init__.py": first})))

    def test_an_init_that_binds_a_file_name_is_told(self):
        self.assertIn("L16", rules_of(faults_of({**GOOD, "__init__.py": "things = 1\n"})))
