"""The package keeps to LANGUAGE.md, and the check finds what does not."""

import os
import unittest

import pulledonce
from tests.language import findings

FOLDER = os.path.dirname(os.path.abspath(pulledonce.__file__))

RIGHT = '''"""Text, with a % and a type in it."""

from pulledonce.other import LIMIT, Bad

WORDS = ("a", "b")


def first(rows):
    return [row for row in rows if row not in WORDS]


TABLE = {"x": first}


class Box:
    """A box."""

    def __init__(self, rows, *, more=()):
        self.rows = list(rows)
        self.more = more

    @property
    def many(self):
        return len(self.rows)

    def told(self, name):
        if name not in TABLE:
            raise Bad(name)
        action = TABLE[name]
        return action(self.rows)

    def __eq__(self, other):
        return isinstance(other, Box) and self.rows == other.rows


def counted(rows):
    seen = set()
    for at, row in enumerate(rows):
        if row is not None and row not in seen:
            seen.add(row)
    table = {name: f"{name}: {LIMIT:>3}" for name in sorted(seen)}
    try:
        return table[rows[0]] + ", ".join(name for name in rows)
    except KeyError:
        return "\\n"
'''
OTHER = '''LIMIT = 3


def helped(rows):
    return rows


class Bad(ValueError):
    def __init__(self, value):
        self.value = value
'''

# Each row: the rule, and a file that breaks it.
WRONG = [
    ("L2", "import os\n"),
    ("L2", "from os import path\n"),
    ("L2", "from itertools import count\n"),
    ("L2", "def f():\n    from pulledonce.other import LIMIT\n    return LIMIT\n"),
    ("L2", "X = 1\nfrom pulledonce.other import LIMIT\n"),
    ("L16", "import heapq\n"),
    ("L16", "from pulledonce.other import Missing\n"),
    ("L16", "from .other import LIMIT\n"),
    ("L16", "from pulledonce.other import LIMIT as MOST\n"),
    ("L16", "from pulledonce.file import f\n\n\ndef f():\n    return 1\n"),
    ("L3", "A, B = 1, 2\n"),
    ("L3", "A = len('a')\n"),
    ("L3", "A = [x for x in (1, 2)]\n"),
    ("L3", "if True:\n    A = 1\n"),
    ("L3", "TABLE = {'a': f}\n\n\ndef f():\n    return 1\n"),
    ("L15", "A = 1\nA = 2\n"),
    ("L15", "A = ([],)\n"),
    ("L15", "A = []\n\n\ndef f():\n    A.append(1)\n"),
    ("L15", "A = {}\n\n\ndef f():\n    A[1] = 2\n"),
    ("L15", "A = []\n\n\ndef f():\n    return A\n"),
    ("L15", "def f(id):\n    return id\n"),
    ("L15", "def f():\n    map = 1\n    return map\n"),
    ("L15", "class C:\n    pass\n\n\ndef f(C):\n    return C\n"),
    ("L15", "def f():\n    class C:\n        pass\n"),
    ("L4", "def f(x=[]):\n    return x\n"),
    ("L4", "def g(f):\n    return f\n\n\n@g\ndef f():\n    return 1\n"),
    ("L5", "class C(dict):\n    pass\n"),
    ("L5", "class C:\n    def __hash__(self):\n        return 1\n"),
    ("L5", "class C:\n    rows = []\n"),
    ("L5", "class C(ValueError):\n    @property\n    def many(self):\n        return 1\n"),
    ("L6", "async def f():\n    return 1\n"),
    ("L6", "def f(x):\n    with x:\n        return 1\n"),
    ("L6", "def f(x):\n    try:\n        return x[0]\n    finally:\n        pass\n"),
    ("L7", "def f():\n    return 1.5\n"),
    ("L7", "def f(x):\n    return x / 2\n"),
    ("L7", "def f(x):\n    return b'a'\n"),
    ("L7", "def f(x):\n    return (y for y in x)\n"),
    ("L7", "class C:\n    def __eq__(self, other):\n        return True\n\n\ndef f(x):\n    return any(y for y in x)\n"),
    ("L7", "def f(x):\n    if (y := x):\n        return y\n"),
    ("L7", "def f(g, x):\n    return g(*x)\n"),
    ("L8", "def f(x):\n    return hash(x)\n"),
    ("L8", "def f(x):\n    return print(x)\n"),
    ("L8", "def f(x):\n    return open(x)\n"),
    ("L10", "def f(x):\n" + "    x += 1\n" * 40),
    ("L10", "# a\n" * 400),
    ("L10", "A = '" + "a" * 120 + "'\n"),
    ("L12", "def f(__x):\n    return 1\n"),
    ("L12", "def f(_enum_x):\n    return 1\n"),
    ("L12", "def f(_):\n    return _\n"),
    ("L13", "def f(x):\n    return sorted({1, 2, 3})\n"),
    ("L13", "def f(x):\n    return [lambda y: y, lambda y: x]\n"),
    ("L14", "# \u00e4\n"),
    ("L17", "def f(register):\n    return register\n"),
    ("L17", "A = 'enum'\n"),
    ("L17", "def f(x):\n    return x.elements\n"),
    ("L18", "class C:\n    pass\n\n\ndef f():\n    return [C]\n"),
    ("L18", "class C:\n    def g(self):\n        return 1\n\n    def g(self):\n        return 2\n"),
    ("L18", "class C:\n    def __init__(self):\n        self.g = 1\n\n    def g(self):\n        return 2\n"),
    ("L18", "class C:\n    pass\n\n\ndef f():\n    C.x = 1\n"),
    ("L18", "def f(x):\n    return x.never\n"),
    ("L19", "def f(x):\n    try:\n        return x[0]\n    except:\n        return 1\n"),
    ("L19", "def f(x):\n    try:\n        return x[0]\n    except Exception:\n        return 1\n"),
    ("L19", "def f(x):\n    raise x\n"),
    ("L19", "def f(x):\n    raise ValueError\n"),
    ("L20", "def f(x):\n    return x is f\n"),
    ("L21", "def f(x: int):\n    return x\n"),
    ("L21", "def f(x) -> int:\n    return x\n"),
    ("L22", "def f(x):\n    return [len]\n"),
    ("L22", "def f(x):\n    return isinstance(x, set)\n"),
    ("L22", "def f(x):\n    return int(x, base=2)\n"),
    ("L22", "def f(x):\n    return g(x)\n\n\ndef g(x, y):\n    return x\n"),
    ("L22", "from pulledonce.other import Bad\n\n\ndef f(x):\n    raise Bad()\n"),
    ("L23", "def f(x):\n    return zip(x, x)\n"),
    ("L23", "def f(x):\n    y = x.items()\n    return y\n"),
    ("L23", "def f(x):\n    for y in x:\n        x.append(y)\n"),
    ("L23", "def f(x):\n    for y, z in enumerate(x):\n        x[y] = z\n"),
    ("L23", "def f(x):\n    yield x\n"),
    ("L24", "def f(x):\n    return set(x)\n"),
    ("L24", "def f(x):\n    for y in set(x):\n        return y\n"),
    ("L24", "def f(x):\n    seen = set(x)\n    return seen\n"),
    ("L25", "def f(x):\n    return x.encode()\n"),
    ("L25", "def f(x):\n    return sorted(x, key=x.index)\n"),
    ("L25", "def f(x):\n    return x.split(sep=1)\n"),
    ("L26", "class C:\n    def encode(self):\n        return 1\n"),
    ("L26", "class C:\n    def __init__(self):\n        self.items = 1\n"),
    ("L27", "def f(x):\n    return 2 ** x\n"),
    ("L27", "A = '50%'\n"),
    ("L27", "A = '\\r'\n"),
    ("L27", "A = '__odd__'\n"),
    ("L27", "def f(x):\n    return 1if x else 2\n"),
    ("L5", "class C:\n    @property\n    def many(self):\n        return 1\n\n\ndef f(x):\n    x.many = 2\n"),
    ("L28", "class C:\n    def __init__(self):\n        return None\n"),
    ("L28", "class C:\n    def __eq__(self, other):\n        self.x = 1\n        return True\n"),
    ("L28", "class C:\n    @property\n    def many(self):\n        self.x += 1\n        return self.x\n"),
]


def package_texts():
    texts = {}
    for name in sorted(os.listdir(FOLDER)):
        if name != "__pycache__":
            with open(os.path.join(FOLDER, name), encoding="utf-8", newline="") as file:
                texts[name] = file.read()
    return texts


class LanguageTest(unittest.TestCase):
    def test_the_package_keeps_to_the_rules(self):
        self.assertEqual(findings(package_texts()), [])

    def test_the_package_has_the_files_that_have_landed(self):
        for stem in ("__init__", "errors", "programs", "machines", "walks", "ways", "alike", "items", "spare", "loops",
                     "making", "judging", "held", "texts"):
            name = stem + ".py"
            self.assertIn(name, package_texts())

    def test_what_is_right_is_not_found(self):
        self.assertEqual(findings({"__init__.py": "", "other.py": OTHER, "file.py": RIGHT}), [])

    def test_what_is_wrong_is_found(self):
        for rule, text in WRONG:
            found = findings({"__init__.py": "", "other.py": OTHER, "file.py": text})
            self.assertIn((rule, "file.py"), [(each[0], each[1]) for each in found], text)

    def test_names_of_files(self):
        for rule, name in [("L1", "Big.py"), ("L1", "a-b.py"), ("L14", "test_x.py"), ("L14", "len.py"), ("L14", "law_x.py")]:
            found = findings({"__init__.py": "", name: ""})
            self.assertIn((rule, name), [(each[0], each[1]) for each in found])
        self.assertEqual([each[0] for each in findings({"a.py": ""})], ["L14"])


if __name__ == "__main__":
    unittest.main()
