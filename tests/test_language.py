"""The rules of the language, as far as a script can see them."""

import os
import tempfile
import unittest

from helper import Case
from lint import check_package

HERE = os.path.dirname(os.path.abspath(__file__))
PACKAGE = os.path.join(os.path.dirname(HERE), "patterndeeds")

# Files that break one rule each, with its number.
BAD = [
    ("L10", "x = 1\n" * 1 + "\n" * 400),
    ("L10", "X = " + "1" * 120 + "\n"),
    ("L10", "def f():\n" + "    pass\n" * 40),
    ("L14", "X = 1\t\n"),
    ("L14", "# \u00e9\n"),
    ("L2", "import os\n"),
    ("L2", "from os import path\n"),
    ("L2", "from itertools import count\n"),
    ("L2", "from patterndeeds.other import *\n"),
    ("L16", "from patterndeeds.other import missing\n"),
    ("L2", "from patterndeeds.other import thing\n"),
    ("L3", "print(1)\n"),
    ("L3", "X = sorted([1])\n"),
    ("L15", "X = {1: [2]}\n"),
    ("L15", "X = 1\nX = 2\n"),
    ("L8", "def f(a):\n    return iter(a)\n"),
    ("L8", "def f(a):\n    return hash(a)\n"),
    ("L8", "def f():\n    return chr(65)\n"),
    ("L15", "def f(id):\n    return id\n"),
    ("L15", "def f():\n    max = 1\n    return max\n"),
    ("L25", "def f(a):\n    return a.encode()\n"),
    ("L25", "def f(a, b):\n    return a.translate(b)\n"),
    ("L27", "X = \"a%\"\n"),
    ("L27", "X = \"\\x41\"\n"),
    ("L27", "def f(a, b):\n    return a ** b\n"),
    ("L7", "def f(a, b):\n    return a / b\n"),
    ("L7", "X = 1.5\n"),
    ("L20", "def f(a, b):\n    return a is b\n"),
    ("L26", "class A:\n    def f(self):\n        self.items = 1\n"),
    ("L18", "class A:\n    def f(self):\n        self.f = 1\n"),
    ("L17", "X = \"a namedtuple\"\n"),
    ("L6", "def f(a):\n    with a:\n        pass\n"),
    ("L4", "def f(a=[]):\n    return a\n"),
    ("L4", "def f(a, *, b):\n    return a\n"),
    ("L3", "X = {1: f}\n\n\ndef f(a):\n    return a\n"),
    ("L15", "X = {1: 2}\n\n\ndef f(a):\n    return a(X)\n"),
    ("L15", "X = [1, 2]\n\n\ndef f():\n    return X\n"),
    ("L19", "def f(a):\n    try:\n        return a[1]\n    except IndexError:\n        return 1\n"),
    ("L23", "def f(a):\n    for b in a:\n        a.append(b)\n"),
    ("L23", "def f(a):\n    for at, b in enumerate(a.b):\n        a.b[at] = 1\n"),
    ("L23", "def f(a):\n    b = a\n    for c in a:\n        b.append(c)\n"),
    ("L23", "def f(a):\n    while a:\n        b = []\n        for c in a:\n            b.append(c)\n        a = b\n"),
    ("L23", "def f(a):\n    b = a[-1]\n    while b:\n        b |= a[-1]\n    return b\n"),
    ("L23", "def f(a):\n    a += a\n    return a\n"),
    ("L23", "def f(a):\n    b = a.rows or []\n    b.extend(a.rows)\n"),
    ("L23", "def f(a):\n    return [a.pop() for b in a]\n"),
    ("L25", "X = {37: None}\n\n\ndef f(a):\n    return a.translate(X), X[37]\n"),
    ("L25", "X = {}\n\n\ndef f(a):\n    return a.translate(X)\n"),
    ("L8", "def f(a):\n    b = iter(a)\n    return b\n"),
    ("L8", "def f(a):\n    b = iter(a)\n    b = iter(a)\n    return list(b)\n"),
    ("L8", "def f(a):\n    return list(iter(a))\n"),
    ("L28", "class A:\n    def __init__(self):\n        return\n"),
]
GOOD = [
    "from patterndeeds.other import thing\n\nX = {\"a\": (1, 2)}\n\n\ndef f(a):\n    return thing(X.get(a, ()))\n",
    "X = {37: None}\n\n\ndef f(a):\n    return a.translate(X) + a.translate({38: None})\n",
    "def f(a):\n    b = iter(a.c)\n    for d in b:\n        if d:\n            break\n    return len(list(b))\n",
    "def f(a):\n    b = list(a)\n    for c in a:\n        b.append(c)\n    b = b + a\n    a.extend(list(a))\n",
]


class TestLanguage(Case):

    def test_package(self):
        self.assertEqual(check_package(PACKAGE), [])

    def test_the_script_sees_what_it_should(self):
        for text in GOOD:
            self.assertEqual(self.found(text), [])
        for rule, text in BAD:
            self.assertIn(rule, [row.split()[0] for row in self.found(text)], text[:60])

    def test_rings_and_names_of_files(self):
        with tempfile.TemporaryDirectory() as folder:
            package = os.path.join(folder, "patterndeeds")
            os.mkdir(package)
            self.write(package, "one.py", "from patterndeeds.two import b\n\n\ndef a():\n    return b()\n")
            self.write(package, "two.py", "from patterndeeds.one import a\n\n\ndef b():\n    return a()\n")
            self.assertIn("L16", [row.split()[0] for row in check_package(package)])
            self.write(package, "two.py", "def b():\n    return 1\n")
            self.assertEqual(check_package(package), [])
            self.write(package, "notes.txt", "x\n")
            self.assertIn("L1", [row.split()[0] for row in check_package(package)])

    def write(self, package, name, text):
        with open(os.path.join(package, name), "w", encoding="utf-8") as handle:
            handle.write(text)

    def found(self, text):
        with tempfile.TemporaryDirectory() as folder:
            package = os.path.join(folder, "patterndeeds")
            os.mkdir(package)
            self.write(package, "other.py", "def thing(a):\n    return a\n")
            self.write(package, "bad.py", text)
            return check_package(package)


if __name__ == "__main__":
    unittest.main()
