"""The package's files keep to the language rules, and the check of them sees what does not."""

import ast
import unittest
from pathlib import Path

from language_rules import faults_in

PACKAGE = Path(__file__).resolve().parent.parent / "interlaced"

# The rule, and a file that breaks it.
BROKEN = [
    ("L3", "import math"),
    ("L2", "from .slots import answers"),
    ("L2", "from math import gcd"),
    ("L3", "print(1)"),
    ("L3", "A = 3 + 4"),
    ("L15", "A = 1\nA = 2"),
    ("L15", "class A:\n    pass\ndef f(A):\n    return A"),
    ("L15", "def f(hash):\n    return hash"),
    ("L4", "def f(*a):\n    return a"),
    ("L4", "def f(a=-1):\n    return a"),
    ("L5", "class A:\n    b = 1"),
    ("L6", "def f(a):\n    assert a"),
    ("L6", "def f():\n    a = b = 1\n    return a + b"),
    ("L6", "def f(a):\n    for b in a:\n        pass\n    else:\n        pass"),
    ("L7", "def f(a):\n    return a / 2"),
    ("L7", "def f(a):\n    return a * 2.5"),
    ("L7", "def f(a):\n    return {b for b in a}"),
    ("L7", "def f(a):\n    return f'{a + 1}'"),
    ("L8", "def f(a):\n    return round(a)"),
    ("L10", "def f(a):\n" + "    a += 1\n" * 40),
    ("L10", "A = 1\n" * 400),
    ("L10", "A = '" + "a" * 120 + "'"),
    ("L12", "def f(a):\n    return [1 for _ in a]"),
    ("L14", "A = '\u00e4'"),
    ("L14", "def f():\n\treturn 1"),
    ("L17", "# the type of a thing"),
    ("L17", "def f(a):\n    id = a\n    return id"),
    ("L20", "def f(a, b):\n    return a is b"),
    ("L21", "def f(a: int):\n    return a"),
    ("L22", "def f(a):\n    b = len\n    return b(a)"),
    ("L22", "def f(a):\n    return int(a, base=2)"),
    ("L23", "def f(a):\n    b = zip(a, a)\n    return b"),
    ("L23", "def f(a):\n    for b in a:\n        a.append(b)"),
    ("L25", "def f(a):\n    a.sort()"),
    ("L26", "class A:\n    def split(self):\n        return 1"),
    ("L27", "def f(a):\n    return 2 ** a"),
    ("L27", "A = '%'"),
    ("L28", "class A:\n    def __init__(self):\n        return None"),
]


class Language(unittest.TestCase):
    def sources(self):
        return {path.name: path.read_text(encoding="utf-8") for path in PACKAGE.glob("*.py")}

    def test_package_keeps_to_the_rules(self):
        self.assertEqual(faults_in(self.sources()), [])

    def test_nothing_else_lies_in_the_package(self):
        others = [path.name for path in PACKAGE.iterdir() if path.suffix != ".py" and path.name != "__pycache__"]
        self.assertEqual(others, [])
        self.assertIn("__init__.py", self.sources())

    def test_interface_is_a_plain_def_in_its_file(self):
        homes = []
        for name, source in self.sources().items():
            for node in ast.parse(source).body:
                if isinstance(node, (ast.FunctionDef, ast.ClassDef)) and node.name == "answers":
                    homes.append(name)
                    self.assertEqual([argument.arg for argument in node.args.args], ["calls"])
                    self.assertEqual(node.args.defaults, [])
        self.assertEqual(homes, ["slots.py"])

    def test_broken_files_are_seen(self):
        for rule, source in BROKEN:
            with self.subTest(rule=rule, source=source[:60]):
                faults = faults_in({"sample.py": '"""A sample."""\n' + source})
                self.assertIn(rule, [fault.split()[0] for fault in faults])

    def test_files_that_draw_from_one_another_are_seen(self):
        faults = faults_in({
            "one.py": '"""One."""\nfrom interlaced.two import b\ndef a():\n    return b()',
            "two.py": '"""Two."""\nfrom interlaced.one import a\ndef b():\n    return a()',
        })
        self.assertTrue(any("draw from one another" in fault for fault in faults))


if __name__ == "__main__":
    unittest.main()
