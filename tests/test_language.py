"""The package keeps the rules of ../shared/LANGUAGE.md that a program can check."""

import os
import tempfile
import unittest

from tests.language.files import folder_faults
from tests.language.package import package_faults, source_faults, text_faults_of
from tests.language.sources import Source

FOLDER = os.path.join(os.path.dirname(os.path.dirname(os.path.abspath(__file__))), "tosstrees")

RIGHT = '''"""A file that keeps the rules: 100 % of them."""

from heapq import heappush
from itertools import product
from math import gcd, lcm

from pack.other import low

LIMIT = 2 * 30
NAMES = ("a", "b")
TABLE = {"a": 1, "b": (1, -2)}


class Bad(ValueError):
    """No good."""

    def __init__(self, value):
        ValueError.__init__(self, value)
        self.value = value


class Worse(Bad):
    """Still less good."""


class Box:
    def __init__(self, rows):
        self.rows = rows

    def __len__(self):
        return len(self.rows)

    def put(self, row):
        self.rows.append(row)

    def put_all(self, rows, back=False):
        for row in rows:
            self.put(row)
        return self.put_two(*rows) if back else self.rows

    def put_two(self, one, other):
        self.put_all([one, other])


def walk(rows, many=LIMIT, *, back=False):
    """Goes over rows."""
    seen = set()
    found = {}
    for k, (row, other) in enumerate(zip(rows, rows[1:]), start=1):
        if row in seen or other is None:
            continue
        seen.add(row)
        found[row] = gcd(k, many) ** 2 // lcm(2, 3) % 7
    if len(found) == 0:
        raise Bad(rows)
    _, last = rows[-1], max(len(row) for row, _ in found.items())
    first, *rest = [low(row) for row in rows[:last]]
    return (*rest, first, sorted(seen, reverse=True), [a * b for a, b in product(rest, rest)])


def names(box):
    try:
        value = TABLE[box]
    except KeyError as error:
        raise Bad(box) from error
    queue = []
    heappush(queue, value)
    text = f"{each(queue, low) or '-'} {'a' if value else 'b'}"
    return text + ", ".join(f"{name}: {value:>4}" for name in NAMES) + "\\n"


def each(xs, action):
    return tuple([None if x is None else action(x) for x in xs])


def both(xs):
    return sum(x for x in xs), [2 ** k for k in range(8)], 1 << len(xs), max(xs, key=lambda x: -x)
'''

WRONG = (
    ("L2", "import math\n"), ("L2", "from math import sqrt\n"), ("L2", "from math import gcd as g\n"),
    ("L2", "from random import choice\n"), ("L2", "from pack.none import low\n"),
    ("L2", "from .other import low\n"), ("L2", "from pack.other import *\n"),
    ("L2", "def f():\n    from pack.other import low\n    return low(1)\n"),
    ("L2", "A = 1\nfrom pack.other import low\n"), ("L16", "from pack.other import high\n"),
    ("L2", "from math import gcd\n\n\ndef f():\n    return gcd\n"),
    ("L3", "A, B = 1, 2\n"), ("L3", "A = len('ab')\n"), ("L3", "A = [[1]]\n"), ("L3", "low(1)\n"),
    ("L3", "for k in range(3):\n    A = k\n"), ("L3", "A = {1, 2}\n"),
    ("L4", "def f(a=[]):\n    return a\n"), ("L4", "@f\ndef g():\n    return 1\n"),
    ("L5", "class A:\n    def __hash__(self):\n        return 1\n"),
    ("L5", "class A:\n    x: int = 1\n"), ("L5", "class A(metaclass=B):\n    pass\n"),
    ("L6", "async def f():\n    return 1\n"), ("L6", "def f(a):\n    a == 1\n"),
    ("L6", "def f(a):\n    del a.b\n"), ("L6", "def f(a):\n    import sys\n    a.b\n"),
    ("L7", "A = 1.5\n"), ("L7", "A = 1j\n"), ("L7", "def f(a):\n    return a / 2\n"),
    ("L7", "def f(a):\n    return ...\n"), ("L7", "def f(a):\n    b = (x for x in a)\n    return b\n"),
    ("L7", "def f(a):\n    return (b := a)\n"), ("L7", "def f(a):\n    return a @ a\n"),
    ("L8", "def f(a):\n    return filter(None, a)\n"), ("L8", "def f(a):\n    return hash(a)\n"),
    ("L8", "def f(a):\n    return chr(a)\n"), ("L8", "def f(a):\n    return missing(a)\n"),
    ("L8", "def f(a):\n    return object()\n"), ("L8", "def f(a):\n    return a.__dict__\n"),
    ("L9", "def f(a):\n    print(a)\n"), ("L10", "A = 1\n" * 400), ("L10", "A = '" + "a" * 120 + "'\n"),
    ("L10", "def f():\n" + "    a = 1\n" * 40), ("L10", "def f():\n\treturn 1\n"),
    ("L12", "def f(_wall):\n    return 1\n"), ("L12", "def f(_):\n    return _\n"),
    ("L12", "_1 = 1\n"), ("L12", "__x = 1\n"), ("L13", "def f(a):\n    b = {1, 2, 3}\n    return a in b\n"),
    ("L13", "def f():\n    return (lambda x: 1, lambda x: 2)\n"), ("L14", "A = '\u00e9'\n"),
    ("L15", "A = 1\nA = 2\n"), ("L15", "def f(round):\n    return 1\n"), ("L15", "def f(a):\n    id = a\n"),
    ("L15", "def hash(a):\n    return a\n"), ("L15", "def f():\n    class A:\n        pass\n"),
    ("L15", "from pack.other import low\n\n\ndef f(low):\n    return low\n"),
    ("L15", "A = [1]\n\n\ndef f(a):\n    A.append(a)\n"), ("L15", "A = {}\n\n\ndef f(a):\n    A[a] = 1\n"),
    ("L17", "def f(register):\n    return 1\n"), ("L17", "A = 'an enum'\n"),
    ("L17", "def f(a):\n    return a.mro\n"),
    ("L17", "def f(dir):\n    return 1\n"), ("L18", "class A:\n    pass\n\n\ndef f():\n    return [A]\n"),
    ("L19", "def f(a):\n    try:\n        return a\n    except:\n        return 1\n"),
    ("L19", "def f(a):\n    try:\n        return a\n    except Exception:\n        return 1\n"),
    ("L19", "def f(a):\n    raise a\n"), ("L19", "def f(a):\n    raise\n"),
    ("L19", "def f(a):\n    raise a.wrong()\n"), ("L20", "def f(a):\n    return a is 1000\n"),
    ("L21", "def f():\n    a: int\n    return 1\n"), ("L22", "def f(a):\n    return int(a, base=2)\n"),
    ("L22", "def f(a):\n    b = len\n    return b(a)\n"),
    ("L22", "def f(a):\n    return 1\n\n\ndef g():\n    return f()\n"),
    ("L23", "def f(a):\n    return zip(a, a)\n"), ("L23", "def f(a):\n    return a.items()\n"),
    ("L23", "def f(a):\n    for b in a:\n        a.append(b)\n"),
    ("L23", "def f(a):\n    for b, c in a.items():\n        a[b] = 1\n"),
    ("L24", "def f(a):\n    return set(a)\n"), ("L24", "def f(a):\n    return [x for x in set(a)]\n"),
    ("L24", "def f(a):\n    b = set(a)\n    return b\n"),
    ("L24", "def f(a):\n    b = set(a)\n    for c in b:\n        return c\n"),
    ("L24", "def f(a):\n    b = set()\n    b = set(a)\n    return len(b)\n"),
    ("L22", "from pack.other import low\n\n\ndef f(a):\n    return low(a, a)\n"),
    ("L22", "from pack.other import low\n\n\ndef f(a):\n    return low(m=a)\n"),
    ("L24", "def f(a):\n    b = set(a)\n    return lambda x: x in b\n"),
    ("L18", "class A:\n    def b(self):\n        return 1\n\n    def b(self):\n        return 2\n"),
    ("L18", "class A:\n    def __init__(self):\n        self.b = 1\n\n    def b(self):\n        return 2\n"),
    ("L18", "class A:\n    def b(self):\n        return 1\n\n\nclass C(A):\n    def d(self):\n        self.b = 1\n"),
    ("L18", "def f(a):\n    return a.missing\n"),
    ("L22", "class A:\n    def b(self, c):\n        return self.b()\n"),
    ("L22", "class A:\n    def b(self, c):\n        return self.b(c, c)\n"),
    ("L22", "class A:\n    def b(self, c):\n        return self.b(d=c)\n"),
    ("L22", "class A:\n    def b(self, c):\n        return self.d(c)\n"),
    ("L7", "def f(a):\n    return max(*a[1:])\n"), ("L7", "def f(a):\n    return max(*sorted(a))\n"),
    ("L25", "def f(a):\n    return a.popitem()\n"), ("L25", "def f(a):\n    return a.split(sep=',')\n"),
    ("L26", "def f(a):\n    a.items = 1\n"), ("L27", "def f(a, b):\n    return a ** b\n"),
    ("L27", "def f(a):\n    return a ** 65\n"), ("L27", "A = 'a % sign'\n"), ("L27", "A = 'a\\r'\n"),
    ("L27", "A = '__odd__'\n"), ("L27", "A = 'x._'\n"), ("L27", "A = r'ab'\n"),
    ("L28", "class A:\n    def __init__(self):\n        return None\n"),
    ("L28", "class A:\n    def __init__(self):\n        return 1\n"),
)


class Language(unittest.TestCase):
    def test_the_package_keeps_the_rules(self):
        self.assertEqual(package_faults(FOLDER, "tosstrees"), [])

    def test_right_code_has_no_faults(self):
        self.assertEqual(text_faults_of(RIGHT), [])

    def test_wrong_code_is_found(self):
        for rule, text in WRONG:
            self.assertIn(rule, [found[0] for found in text_faults_of(text)], text)

    def test_files_that_import_in_a_circle(self):
        sources = [Source("__init__.py", ""),
                   Source("one.py", "from pack.two import f\n\n\ndef g():\n    return f()\n"),
                   Source("two.py", "from pack.one import g\n\n\ndef f():\n    return g()\n")]
        self.assertEqual([found[:2] for found in source_faults("pack", sources)],
                         [("L16", "one.py"), ("L16", "two.py")])

    def test_files_that_may_not_stand_there(self):
        for name, rule in (("Data.py", "L1"), ("note.txt", "L1"), ("math.py", "L14"),
                           ("test_one.py", "L14"), ("sum.py", "L14"), ("enum.py", "L14")):
            with tempfile.TemporaryDirectory() as folder:
                for one in ("__init__.py", name):
                    with open(os.path.join(folder, one), "w", encoding="utf-8"):
                        pass
                self.assertIn(rule, [found[0] for found in folder_faults(folder)], name)
        with tempfile.TemporaryDirectory() as folder:
            self.assertEqual([found[0] for found in folder_faults(folder)], ["L14"])


if __name__ == "__main__":
    unittest.main()
