"""The form of the package's files: what a test can look at of ../shared/LANGUAGE.md."""

import builtins
import re
import sys
import warnings
from pathlib import Path
from unittest import TestCase, main

import feeblind
from tests.language import faults

FOLDER = Path(feeblind.__file__).parent
# The order of the document, in which each module needs only those above it.
ORDER = (
    "errors names measures rows dials hours joint told verdicts sentences roads texts blocks charts edits shapes nets plain "
    "plans judging ladder papers keeping hubs cells yards bounds hanging closings opentables settings dialpapers clocks states house trials"
).split()

BAD = [
    ("L10", "X = 1\n" * 400),
    ("L10", "def f():\n" + "    x = 1\n" * 40),
    ("L10", "X = 1" + "0" * 120 + "\n"),
    ("L14", "X = 'a\tb'\n"),
    ("L14", "# \u00e4\n"),
    ("L12", "# _wall\n"),
    ("L17", "def f(x):\n    return x.type\n"),
    ("L17", "X = 'a type'\n"),
    ("L17", "X = 'dataclasses'\n"),
    ("L17", "def f(open):\n    return 1\n"),
    ("L17", "def f(x):\n    return x.open\n"),
    ("L17", "def f():\n    vars = 1\n"),
    ("L27", "X = 'a%b'\n"),
    ("L27", "X = 'a\\x00'\n"),
    ("L27", "X = '__a__'\n"),
    ("L27", "def f(n):\n    return 2 ** n\n"),
    ("L2", "import sys\n"),
    ("L2", "from sys import argv\n"),
    ("L2", "from os.path import join\n"),
    ("L2", "from .names import is_name\nX = is_name\n"),
    ("L2", "from feeblind.names import is_name as named\n"),
    ("L2", "from feeblind.names import *\n"),
    ("L2", "from feeblind.names import missing\nX = missing\n"),
    ("L2", "X = 1\nfrom feeblind.names import is_name\n"),
    ("L2", "from feeblind.names import is_name\n"),
    ("L3", "X = len('a')\n"),
    ("L3", "X, Y = 1, 2\n"),
    ("L3", "X = [[1]]\n"),
    ("L3", "for x in (1, 2):\n    pass\n"),
    ("L15", "X = 1\nX = 2\n"),
    ("L15", "def f(max):\n    return max\n"),
    ("L15", "def f():\n    id = 1\n"),
    ("L15", "class Box:\n    pass\ndef f(Box):\n    return 1\n"),
    ("L15", "from feeblind.names import is_name\ndef f(is_name):\n    return is_name\n"),
    ("L4", "def g(f):\n    return f\n@g\ndef h():\n    return 1\n"),
    ("L4", "def f(x=[]):\n    return x\n"),
    ("L21", "def f(x: int):\n    return x\n"),
    ("L21", "def f() -> int:\n    return 1\n"),
    ("L5", "class Box(metaclass=int):\n    pass\n"),
    ("L5", "class Box:\n    def __hash__(self):\n        return 1\n"),
    ("L18", "class Box:\n    def f(self):\n        return 1\n    def f(self):\n        return 2\n"),
    ("L18", "class Box:\n    pass\ndef f():\n    return [Box]\n"),
    ("L28", "class Box:\n    def __init__(self):\n        return None\n"),
    ("L28", "class Box:\n    def __repr__(self):\n        if 1:\n            return 'a'\n"),
    ("L28", "class Box:\n    def __eq__(self, other):\n        x = 1\n        return x == 1\n"),
    ("L26", "class Box:\n    def encode(self):\n        return 1\n"),
    ("L26", "class Box:\n    def __init__(self):\n        self.items = 1\n"),
    ("L8", "def f(x):\n    return hash(x)\n"),
    ("L8", "def f(x):\n    print(x)\n"),
    ("L12", "def f():\n    _ = 1\n    return _\n"),
    ("L12", "def f(__x):\n    return 1\n"),
    ("L6", "def f():\n    global X\n"),
    ("L6", "async def f():\n    return 1\n"),
    ("L6", "def f(x, y):\n    return x / y\n"),
    ("L6", "def f(xs):\n    return any(x for x in xs)\n"),
    ("L6", "def f():\n    x: int = 1\n"),
    ("L7", "X = 1.5\n"),
    ("L7", "class Box:\n    X = [n for n in (1, 2)]\n"),
    ("L20", "def f(x, y):\n    return x is y\n"),
    ("L19", "def f(x):\n    raise x\n"),
    ("L19", "def f(x):\n    raise ValueError\n"),
    ("L19", "def f(x):\n    try:\n        x()\n    except Exception:\n        pass\n"),
    ("L19", "def f(x):\n    try:\n        x()\n    except:\n        pass\n"),
    ("L22", "def f(x):\n    return int(x, base=2)\n"),
    ("L25", "def f(x):\n    return x.as_integer_ratio()\n"),
    ("L25", "def f(x):\n    return x.split(sep='a')\n"),
    ("L23", "def f(x):\n    return zip(x, x)\n"),
    ("L23", "def f(x):\n    y = x.items()\n    return len(y)\n"),
    ("L24", "def f(x):\n    for y in set(x):\n        pass\n"),
    ("L24", "def f(x):\n    return set(x)\n"),
    ("L24", "def f(x):\n    y = set(x)\n    return y\n"),
    ("L24", "def f(x):\n    y = set(x)\n    return [z for z in y]\n"),
    ("L24", "def f(x):\n    return list({z for z in x})\n"),
    ("L23", "def f(x):\n    for y in x:\n        x.append(y)\n"),
    ("L23", "def f(x):\n    for y in g(x.pop()):\n        x.append(y)\n"),
    ("L23", "def f(x):\n    y = x\n    while y:\n        z = []\n        for a in y:\n            z.append(a)\n        y = z\n"),
    ("L23", "def f(x, z):\n    y = x if z else z\n    for a in x:\n        y.append(a)\n"),
    ("L23", "def f(x):\n    for y, z in x.items():\n        x[y] = 1\n"),
    ("L23", "def f(x):\n    yield x\ndef g(x):\n    return f(x)\n"),
    ("L23", "def f(x):\n    yield x\ndef g(x):\n    y = f(x)\n    return list(y)\n"),
    ("L23", "def f(x):\n    yield x\ndef g(x):\n    return [y for y in f(x + 1)]\n"),
    ("L23", "def f(x):\n    yield x\ndef g(x):\n    return f\n"),
    ("L23", "def f(x):\n    yield x\nclass Box:\n    def f(self):\n        return 1\n"),
    ("L18", "class Box:\n    def f(self):\n        self.f = 1\n"),
    ("truth", "class Box:\n    def __len__(self):\n        return 1\n"),
]


def texts():
    """The files of the package by their names without endings."""
    return {path.stem: path.read_text(encoding="utf-8") for path in sorted(FOLDER.glob("*.py"))}


class Checker(TestCase):
    def test_finds_each_bad_line(self):
        names = {"names": texts()["names"]}
        for rule, text in BAD:
            found = {found_rule for name, found_rule, _ in faults({**names, "bad": text}) if name == "bad"}
            with self.subTest(text=text):
                self.assertIn(rule, found)


class Files(TestCase):
    def test_no_faults(self):
        self.assertEqual(faults(texts()), [])

    def test_no_warnings(self):
        for name, text in texts().items():
            with warnings.catch_warnings():
                warnings.simplefilter("error")
                compile(text, name, "exec")

    def test_the_folder_holds_files_with_plain_names_and_nothing_else(self):
        for path in FOLDER.iterdir():
            if path.name != "__pycache__":
                self.assertTrue(path.is_file() and path.suffix == ".py", path)
                self.assertTrue(path.stem == "__init__" or re.fullmatch("[a-z][a-z0-9_]*", path.stem), path)
        self.assertTrue((FOLDER / "__init__.py").is_file())

    def test_names_of_files(self):
        barred = {"site", "conftest", "sitecustomize", "usercustomize", "test", "tests", "testing", "typing", "enum"}
        for name in texts():
            if name != "__init__":
                self.assertFalse(name in barred or hasattr(builtins, name) or name.startswith(("law_", "test_")), name)
        self.assertNotIn("feeblind", sys.stdlib_module_names)
        self.assertLessEqual(len(texts()), 100)

    def test_each_module_needs_only_those_above_it(self):
        for name, text in texts().items():
            for needed in re.findall(r"^from feeblind\.(\w+) import", text, re.MULTILINE):
                self.assertLess(ORDER.index(needed), ORDER.index(name), f"{name} needs {needed}")

    def test_lines_end_with_a_line_feed(self):
        for name, text in texts().items():
            self.assertTrue(text.endswith("\n"), name)


if __name__ == "__main__":
    main()
