"""The package's own files keep to the part of Python that the program is written in."""

import pathlib
import unittest

import ledgerdb
from tests.language_rules import PACKAGE, check_package

FOLDER = pathlib.Path(ledgerdb.__file__).parent

CLEAN = {
    "__init__.py": '"""A package."""\n',
    "errors.py": '"""Errors."""\n\n\nclass Wrong(ValueError):\n    pass\n',
    "lists.py": (
        '"""Lists."""\n\nfrom ledgerdb.errors import Wrong\n\nMOST = 3\nNAMES = ("a", "b")\n\n\n'
        'class Kept:\n    def __init__(self):\n        self.rows = []\n\n    def take(self, row):\n'
        '        if len(row) > MOST:\n            raise Wrong(f"too long: {row!r}")\n'
        '        self.rows.append([k + 1 for k in row if k not in NAMES])\n\n\n'
        'KINDS = {"a": 1}\n\n\n'
        'def walk(rows):\n    for k, row in enumerate(rows):\n'
        '        if isinstance(row, (int, str)) and row in KINDS:\n'
        '            return [dict(zip(row, rows)), max(range(k), default=KINDS[row]), KINDS.get(k), len(KINDS)]\n'
        '    return sorted([tuple(row.values()) for row in reversed(rows)], key=len, reverse=True)\n'),
}

# Each of these leaves the rule named ahead of it, as the whole of a function's body.
WRONG_BODIES = (
    ("L6", "with a:\n        pass"),
    ("L6", "assert a"),
    ("L6", "for k in a:\n        pass\n    else:\n        pass"),
    ("L6", "b = c = a"),
    ("L6", "b, c = a"),
    ("L6", "a"),
    ("L6", "'words'"),
    ("L6", "try:\n        pass\n    finally:\n        pass"),
    ("L6", "import re"),
    ("L2", "from re import sub"),
    ("L7", "return a / 2"),
    ("L7", "return 0.5"),
    ("L7", "return b''"),
    ("L7", "return {k for k in a}"),
    ("L7", "return any(k for k in a)"),
    ("L7", "return [k for j in a for k in j]"),
    ("L7", "return (b := a)"),
    ("L7", "return [*a]"),
    ("L7", "return f'{a[0]}'"),
    ("L8", "return chr(a)"),
    ("L8", "return hash(a)"),
    ("L8", "print(a)"),
    ("L10", "return (" + "\n" * 40 + "a)"),
    ("L10", "return '" + "a" * 120 + "'"),
    ("L12", "b_ = [1 for _ in a]"),
    ("L14", "return '\u00e9'"),
    ("L15", "list = a"),
    ("L17", "# the type of a\n    return a"),
    ("L17", "return a.elements"),
    ("L19", "raise a"),
    ("L19", "try:\n        pass\n    except Exception:\n        pass"),
    ("L20", "return a is a"),
    ("L22", "return len"),
    ("L22", "return [len, a]"),
    ("L22", "return a.split(sep=',')"),
    ("L22", "return list(iterable=a)"),
    ("L22", "return sorted(a, default=1)"),
    ("L23", "b = zip(a, a)\n    return b"),
    ("L23", "return range(3)"),
    ("L23", "return [a.items()]"),
    ("L23", "return max(a.values(), 3)"),
    ("L23", "return len(a.keys())"),
    ("L25", "return a.title()"),
    ("L26", "a.sort = 1"),
    ("L27", "return a ** a"),
    ("L27", "return '\\x41'"),
    ("L27", "return ' % '"),
)
WRONG_FILES = (
    ("L3", "plain.py", "print(1)\n"),
    ("L3", "plain.py", "NAMES = 'a b'.split()\n"),
    ("L3", "plain.py", "NAMES = [[1]]\n"),
    ("L4", "plain.py", "def one(*a):\n    return a\n"),
    ("L5", "plain.py", "class One:\n    two = 2\n"),
    ("L14", "len.py", "ONE = 1\n"),
    ("L14", "test_one.py", "ONE = 1\n"),
    ("L15", "plain.py", "ONE = 1\nONE = 2\n"),
    ("L15", "plain.py", "ONE = []\n\n\ndef two(a):\n    ONE.append(a)\n"),
    ("L15", "plain.py", "ONE = [1]\n\n\ndef two():\n    return ONE\n"),
    ("L15", "plain.py", "ONE = {1: 2}\n\n\ndef two(a):\n    a(ONE)\n"),
    ("L16", "plain.py", "from ledgerdb.lists import Wrong\n"),
    ("L16", "plain.py", "from ledgerdb.plain import one\n"),
    ("L18", "plain.py", "class One:\n    def __init__(self):\n        self.take = 1\n"),
    ("L21", "plain.py", "def one(a: int):\n    return a\n"),
    ("L26", "plain.py", "class One:\n    def sort(self):\n        return 1\n"),
)


class PackageTest(unittest.TestCase):
    def test_only_plain_files_lie_in_the_package(self):
        self.assertEqual(FOLDER.name, PACKAGE)
        for path in FOLDER.iterdir():
            if path.name != "__pycache__":
                self.assertTrue(path.is_file(), path)
                self.assertEqual(path.suffix, ".py", path)

    def test_no_file_leaves_the_rules(self):
        sources = {path.name: path.read_bytes().decode("utf-8") for path in FOLDER.glob("*.py")}
        self.assertIn("__init__.py", sources)
        self.assertEqual(check_package(sources), [])


class RulesTest(unittest.TestCase):
    def assert_found(self, rule, name, text):
        found = check_package({**CLEAN, name: text})
        self.assertIn(rule, [finding.split()[1] for finding in found], text)

    def test_clean_files_pass(self):
        self.assertEqual(check_package(CLEAN), [])

    def test_wrong_bodies_are_found(self):
        for rule, body in WRONG_BODIES:
            self.assert_found(rule, "plain.py", f"def one(a):\n    {body}\n")

    def test_wrong_files_are_found(self):
        for rule, name, text in WRONG_FILES:
            self.assert_found(rule, name, text)

    def test_files_that_are_too_long_are_found(self):
        self.assert_found("L10", "plain.py", "\n" * 401)

    def test_circles_are_found(self):
        circle = {"one.py": "from ledgerdb.two import b\n\n\ndef a():\n    return b\n",
                  "two.py": "from ledgerdb.one import a\n\n\ndef b():\n    return a\n"}
        self.assertTrue(all("L16" in finding for finding in check_package(circle)))
        self.assertEqual(len(check_package(circle)), 2)


if __name__ == "__main__":
    unittest.main()
