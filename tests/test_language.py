"""The package keeps the rules of LANGUAGE.md, and the test of each rule finds code that breaks it."""

import ast
import os
import subprocess
import sys
import unittest
from pathlib import Path
from textwrap import indent

from language_code import Package, package_in
from language_rules import RULES, faults
from tidefold.flow import Flow
from tidefold.marks import plan_mark
from tidefold.meaning import result
from tidefold.parsing import parse_plan
from tidefold.printing import print_plan, sources
from tidefold.shows import shows

ROOT = Path(__file__).resolve().parent.parent
PACKAGE = package_in(ROOT / "tidefold")

GOOD = '''"""What is let through."""

from sample.other import Base, WORDS, told

LIMIT = -3
NAMES = {"a": (1, 2), "b": (3,)}


class Failure(ValueError):
    """An error."""


class Box(Base):
    """A class."""

    def __init__(self, rows, most=3):
        Base.__init__(self, rows)
        self.most = most

    @staticmethod
    def made(rows):
        """Return a box."""
        return Box(rows)

    def put(self, row):
        """Put a row."""
        if self.most is not None and len(self.rows) > self.most or row in NAMES:
            raise Failure(f"{row} and {self.most}")
        self.rows.append(row)


def looked(xs, by=1):
    """Look at things."""
    seen = {x[:2] for x in xs}
    found = {}
    for at, (x, _) in enumerate(xs):
        found.setdefault(x, []).append(at)
        if x in seen:
            found[x] += [NAMES["a"][0], told(x)]
    while found:
        found.pop(0)
    ends = [x if x < by else -x for x in sorted(set(xs)) if x not in WORDS]
    return max(ends, default=None), sum([y for x in xs for y in range(x)])
'''

OTHER = '''"""Another file."""

WORDS = ("a", "b")


class Base:
    """A base class."""

    def __init__(self, rows):
        self.rows = rows


def told(word):
    """Return a word."""
    return word.lower()
'''

INIT = '"""A package."""\n'

TOP = '"""Words."""\n'
LONG = "    a = 1\n" * 40

# For each rule, code that breaks it: with a blank in front, lines of a function f(xs, d, n); otherwise lines
# that stand at module level.
BROKEN = {
    2: ["import ast", "from ast import walk", "from sample import other", "from .other import told",
        "from sample.other import *", "from sample.other import told as said", "from math import gcd",
        "A = 1\nfrom sample.other import told"],
    3: ["A, B = 1, 2", "A = B = 1", "A = 1 + 1", "A = len('a')", "A = [x for x in 'ab']", "A = {1}", "A.b = 1",
        "A = 1.5", "A = b'a'", "if 1:\n    A = 1", "1", "print", "f()", "A = 1 // 0", "A = {**{}}"],
    4: ["def g(*a):\n    return a", "def g(**a):\n    return a", "def g(a, *, b):\n    return b",
        "def g(a, /):\n    return a", "def g(a=[]):\n    return a", "def g(a=f):\n    return a",
        "@f\ndef g():\n    return 1", " def g():\n    return 1"],
    5: ["class A(dict):\n    pass", "class A(B):\n    pass", "class A(Exception, ValueError):\n    pass",
        "class A:\n    B = 1", "class A(metaclass=f):\n    pass", "@f\nclass A:\n    pass",
        "class A:\n    def __eq__(self, other):\n        return True", " class A:\n    pass",
        "class A:\n    def __init__(self):\n        self.b = 1\n    @staticmethod\n    def b():\n        return 1"],
    6: [" global A", " assert n", " del d[1]", " with n:\n    pass", " try:\n    pass\nfinally:\n    pass",
        " n", " n == 1", " match n:\n    case 1:\n        pass", " import ast", " xs[1:] += [1]", " a, *b = xs",
        " async def g():\n    pass", " n: int = 1"],
    7: [" n = 1.5", " n = n / 2", " n = b'a'", " n = [*xs]", " n = {**d}", " n = f'{n:>3}'", " n = f'{n!r}'",
        " n = f'{d[1]}'", " n = (lambda x: x)", " n = [x for x in [x for x in xs]]", " n = n & 1", " n = n @ n",
        " n = max(x for x in xs)", " if (a := n):\n    pass", " n = 'a'[0]", " n = [1][n]", " yield n", " n = ...",
        "A = [x for x in (1, 2)]", " n = d[1](n)", " n = [y for y in xs if [n for n in xs]]"],
    8: [" n = chr(n)", " n = unknown", " n = hash(n)", " len = n", " n = print", " n = n.__class__", " n = n.format",
        "def min():\n    return 1", "class A:\n    def sum(self):\n        return 1", " n = round(n)", " n = frozenset()",
        "def g(list):\n    return list", " n = iter(xs)", " n = eval('1')", " n = staticmethod"],
    9: [" print(n)", " n = open(n)", " n = input()"],
    10: ["def g():\n" + LONG, "# " + "a" * 119, "# \t", "# a\n" * 400],
    11: [" for x in set(xs):\n    pass", " for x in {1, 2}:\n    pass", " n = [x for x in {x for x in xs}]",
         " n = hash('a')", " n = id(n)", " try:\n    pass\nexcept Exception as e:\n    pass"],
    12: [" a\u00e9 = 1", " __a = 1", " n = _", "# _wall", "# _WallAttr", " _enum_a = 1", " _record1 = 1", "_ = 1",
         "class _A:\n    pass", " _1 = 1", "class A:\n    def __a(self):\n        return 1"],
    13: [" n = 1 in {1, 2, 3}", " n = {-1, -2}", " n = lambda: 1, lambda: 2"],
    14: ["# \u00e9", " n = '\u20ac'", "# \x01", "# \x7f"],
    15: ["A = 1\nA = 2", "A = 1\ndef A():\n    return 1", "A = [[1]]", "A = ([1],)", "A = {'a': []}", " id = n",
         "def f():\n    return 1", "def hash():\n    return 1", "def g(next):\n    return next", "class A:\n    pass\ndef g(A):\n"
         "    return A", "from sample.other import told\ndef g():\n    told = 1\n    return told",
         "A = [1]\ndef g():\n    A.append(1)", "A = [1]\ndef g():\n    A[0] = 1", "A = [1]\ndef g():\n    return A",
         "A = {}\ndef g(a):\n    return g(A)", "A = [1]\ndef g():\n    b = A\n    return b", "A = {}\ndef g():\n    A.update(A)",
         "A = [1]\ndef g():\n    return [1] + A", "class TimeoutError:\n    pass"],
    16: ["from sample.missing import A", "from sample.other import missing", "from sample.part import f"],
    17: [" register = n", " n = n.elements", "def g(open):\n    return open", "def law():\n    return 1", " n.f_back = 1",
         " os = n", "def compile():\n    return 1", " type = n", " n = 'type'", " n = 'an enum'", " n = 'dataclasses'",
         " n.Flag = 1", " n = f(version_info=1)", "class Protocol:\n    pass", " sys = 1",
         "class A:\n    def exec(self):\n        return 1"],
    18: ["class A:\n    pass\ndef g():\n    return A", "class A:\n    pass\ndef g():\n    return [A]",
         "class A:\n    pass\ndef g():\n    A.b = 1", " n = n.missing", " f(n).a = 1", " d[1].a = 1", " f.a = 1",
         "class A:\n    def b(self):\n        return 1\n    def b(self):\n        return 2",
         "class A:\n    def __init__(self):\n        self.b = 1\n    def b(self):\n        return 2",
         "class A(StopIteration):\n    pass", "class A:\n    pass\nclass B:\n    def b(self):\n        return isinstance(A, self)"],
    19: [" try:\n    pass\nexcept KeyError:\n    pass", " raise n", " raise ValueError('a')", " raise f()",
         "class A(ValueError):\n    pass\ndef g():\n    raise A", "class A(ValueError):\n    pass\ndef g(n):\n    raise A('a') from n",
         " raise"],
    20: [" n = n is 1", " n = n is xs", " n = n is not 'a'", " n = n is None is d", " n = n is 0"],
    21: ["def g(a: int):\n    return a", "def g() -> int:\n    return 1", " a: int = 1", "A: int = 1"],
    22: [" n = f(n)", " n = f(n, n, n, n)", " n = f(xs, d, n=1)", " n = sorted(xs, key=f)", " n = len", " n = [len]",
         " n = max(1, 2, default=3)", " n = f(len, d, n)", " n = xs.index(x=1)", " xs.append(1, 2)", " n = enumerate(xs, start=1)",
         "class A:\n    pass\ndef g():\n    return A(1)", "class A(ValueError):\n    pass\ndef g():\n    return A()",
         "class A:\n    def b(self, c):\n        return self.b()", "from sample.other import told\ndef g():\n    return told()",
         "from sample.other import Base\nclass A(Base):\n    pass\ndef g():\n    return A()"],
    23: [" n = zip(xs, xs)", " n = range(3)", " n = d.items()", " n = reversed(xs)", " return d.keys()", " n = f(xs, d, range(n))",
         " for x in xs:\n    xs.append(x)", " for x in xs:\n    xs[0] = x", " for x, _ in d.items():\n    d[x] = 1",
         " for x in d:\n    d.pop(x)", " for x in xs:\n    xs += [x]", " for a, x in enumerate(xs):\n    xs.remove(x)",
         " for a, x in zip(xs, d):\n    d.clear()", " n = [xs.pop() for x in xs]", " for x in n.a:\n    n.a.append(x)",
         " yield n", " n = list(x for x in xs)", " n = len(d.items())", " for x in xs if n else d:\n    xs.clear()"],
    24: [" n = [set(xs)]", " return set(xs)", " n = f(set(xs), d, n)", " n = set(xs) | set(d)", " n = set(set(xs))",
         " s = set(xs)\ns = set(d)", " s = set(xs)\nreturn s", " s = set(xs)\nn = [x for x in s]",
         " s = set(xs)\ns.update(xs)", " s = set(xs)\nt = s", " n = sum(set(xs))", " s = set(xs)\nn = s == xs",
         " n = {x for x in xs}.pop()", " n = s = set(xs)", " d[1] = set(xs)", " n = sorted(set(xs), reverse=True)"],
    25: [" xs.sort()", " n = n.zfill(3)", " n = n.rfind(n)", " n = n.encode()", " n = xs.append", " n = n.bit_length()",
         " n = '{}'.format(n)", " n = d.get(1, default=2)", "class A:\n    def b(self):\n        return self.b", " d.popitem()"],
    26: ["class A:\n    def decode(self):\n        return 1", " n.real = 1", " n.keys = 1", "class A:\n    def pop(self):\n        return 1",
         " n.sort = 1", "class A:\n    def __init__(self):\n        self.items = []"],
    27: [" n = n ** 2", " n = 'a % b'", " n = chr(32)", " n = pow(2, 3)", " n = '\\x00'", " n = '\\r'", " n = 'a._'", " n = '__odd__'",
         " n = 'a.__x'", " n = " + "1" * 901, " n = 1if n else 2", " n = n is 1", " n = 'f_code'", " n = f'{n}\\0'", " n = f'{n} %'",
         " n = 'a\\\nb'"],
    28: ["def __len__():\n    return 1", "class A:\n    def __init__(self):\n        return None",
         "from sample.other import Base\ndef g(n):\n    Base.__init__(n, 1)",
         "from sample.other import Base\nclass A(Base):\n    def __init__(self, n):\n        Base.__init__(n, 1)"],
}


def with_part(text, other=OTHER):
    return Package("sample", {"__init__.py": INIT, "part.py": text, "other.py": other})


def part_of(lines):
    """Return a file with lines, those with a blank in front of them in a function f(xs, d, n)."""
    function = 'def f(xs, d, n):\n    """Do this."""\n'
    if lines.startswith(" "):
        inner = indent(lines[1:], "    ")
        return f"{TOP}\n\n{function}{inner}\n    return n, xs, d\n"
    return f"{TOP}\n{lines}\n\n\n{function}    return n, xs, d\n"


class TheRules(unittest.TestCase):
    def test_the_package_keeps_them(self):
        self.assertEqual(faults(PACKAGE), [])
        self.assertGreater(len(PACKAGE.files), 8)

    def test_there_is_a_test_for_each_rule(self):
        self.assertEqual([rule.__name__ for rule in RULES], [f"rule_{number}" for number in range(1, 29)])
        self.assertEqual(sorted([1] + list(BROKEN)), list(range(1, 29)))

    def test_good_code_is_let_through(self):
        self.assertEqual(faults(with_part(GOOD)), [])
        self.assertEqual(faults(with_part(part_of(" n = 1"))), [])

    def test_broken_code_is_found(self):
        for number, parts in BROKEN.items():
            for lines in parts:
                found = [fault[0] for fault in faults(with_part(part_of(lines)))]
                self.assertIn(f"L{number}", found, lines)

    def test_files_with_other_names(self):
        for name in ("Part.py", "a-b.py", "data.txt", "inner", "inner/part.py", "1.py", ".hidden"):
            found = faults(Package("sample", {"__init__.py": INIT, name: ""}))
            self.assertIn("L1", [fault[0] for fault in found], name)
        for name in ("law_a.py", "tests.py", "test_a.py", "conftest.py", "enum.py", "range.py", "filter.py"):
            found = faults(Package("sample", {"__init__.py": INIT, name: INIT}))
            self.assertIn("L14", [fault[0] for fault in found], name)
        self.assertIn("L9", [fault[0] for fault in faults(Package("sample", {"__init__.py": INIT, "__main__.py": INIT}))])

    def test_packages_with_other_names_and_without_their_first_file(self):
        self.assertIn("L14", [fault[0] for fault in faults(Package("queue", {"__init__.py": INIT}))])
        self.assertIn("L14", [fault[0] for fault in faults(Package("sample", {"part.py": INIT}))])

    def test_files_that_import_each_other(self):
        other = "from sample.part import f\n" + OTHER
        text = part_of("from sample.other import told")
        self.assertIn("L16", [fault[0] for fault in faults(with_part(text, other))])
        third = TOP + "from sample.other import told\n"
        package = Package("sample", {"__init__.py": INIT, "other.py": OTHER, "part.py": third, "more.py": third})
        self.assertEqual(faults(package), [])
        package = Package("sample", {"__init__.py": third, "other.py": OTHER})
        self.assertIn("L16", [fault[0] for fault in faults(package)])
        package = Package("sample", {"__init__.py": INIT, "other.py": OTHER, "part.py": third,
                                     "more.py": TOP + "from sample.part import told\n"})
        self.assertIn("L16", [fault[0] for fault in faults(package)])

    def test_every_function_tells_what_it_is_for(self):
        for file in PACKAGE.files:
            for node in [file.tree] + file.functions + file.classes:
                if getattr(node, "name", "") != "__init__":
                    self.assertIsNotNone(ast.get_docstring(node), (file.name, node))


class TheSameOnEachRun(unittest.TestCase):
    """L11: what code can't show but only a run."""

    def test_the_order_of_sets_and_dicts_makes_no_difference(self):
        lines = """
from drawn import drawings
from tidefold.flow import Flow
from tidefold.marks import plan_mark
from tidefold.meaning import result
from tidefold.printing import print_plan, sources
from tidefold.shows import shows
for drawing in drawings(100, 1):
    plan = drawing.plan(16, 8)
    tables = {name: drawing.bag(6) for name in ("a", "b", "c")}
    marks = {name: drawing.number(-3, 9) for name in tables}
    print(print_plan(plan), sources(plan), shows(plan), result(plan, tables), plan_mark(plan, tables, marks), end=" ")
    flow = Flow(plan)
    for name in sources(plan):
        for (time, key, value), _ in tables[name]:
            print(flow.put(name, (abs(time), key, value)), end=" ")
        print(flow.move(name, abs(marks[name])), end=" ")
    print(flow.state())
"""
        told = {}
        for seed in ("0", "1", "2"):
            environment = dict(os.environ, PYTHONHASHSEED=seed, PYTHONPATH=f"{ROOT}:{ROOT / 'tests'}")
            run = subprocess.run(
                [sys.executable, "-B", "-c", lines], env=environment, capture_output=True, text=True, check=True
            )
            told[run.stdout] = True
        self.assertEqual(len(told), 1)
        self.assertEqual(len(list(told)[0].splitlines()), 100)

    def test_no_deep_calls(self):
        pairs = "less(" * 9 + "a" + ", b)" * 9
        for text in (pairs, "a" + " | once" * 9, "(" * 100 + "a" + ")" * 100, "a" + " | scale 2" * 9):
            limit = sys.getrecursionlimit()
            try:
                # Beyond the calls that this test itself stands in.
                sys.setrecursionlimit(depth_here() + 60)
                plan = parse_plan(text)
                self.assertEqual(parse_plan(print_plan(plan)), plan)
                tables = {name: [((1, "x", 2), 3)] for name in sources(plan)}
                self.assertIsInstance(result(plan, tables), list)
                self.assertIsInstance(shows(plan), list)
                self.assertIsInstance(plan_mark(plan, tables, {name: 5 for name in tables}), int)
                flow = Flow(plan)
                self.assertIsInstance(flow.put("a", (1, "x", 2)), list)
                self.assertIsInstance(flow.move("a", 5), int)
                self.assertEqual(flow.fork().state(), flow.state())
            finally:
                sys.setrecursionlimit(limit)


def depth_here():
    depth = 0
    frame = sys._getframe()
    while frame is not None:
        depth += 1
        frame = frame.f_back
    return depth


if __name__ == "__main__":
    unittest.main()
