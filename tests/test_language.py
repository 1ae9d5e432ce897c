import os
import re
import subprocess
import sys
import unittest

from tests.language import faults_of_package

TOP = os.path.dirname(os.path.dirname(os.path.abspath(__file__)))
FOLDER = os.path.join(TOP, "kindredbush")
HEAD = '"""A file."""\n'

# What each of these tells is outside of the rules, or outside of what is used here.
OUTSIDE = {
    "L21": "def a(x: int):\n    return x\n", "L4": "def a(x=1):\n    return x\n", "L7": "A = 1.5\n",
    "L3": "A = [1] + [2]\n", "L2": "from os import path\n", "L10": "A = " + "1 + " * 40 + "1\n", "L14": "A = '\u00e9'\n",
    "L27": "A = '%'\n", "L17": "A = 'type'\n", "L12": "def a():\n    __x = 1\n    return __x\n",
    "L15": "def a(len):\n    return len\n", "L8": "def a(x):\n    return hash(x)\n", "L20": "def a(x, y):\n    return x is y\n",
    "L19": "def a(x):\n    raise x\n", "L23": "def a(x):\n    for y in x:\n        x.append(y)\n",
    "L22": "def a(x):\n    return max(x, key=len)\n", "L25": "def a(x):\n    return x.isascii()\n",
    "L26": "class A:\n    def split(self):\n        return 1\n", "L16": "from kindredbush.other import b\n",
    "L18": "class A:\n    def b(self):\n        self.b = 1\n",
    "L28": "class A:\n    def __init__(self):\n        return None\n",
    "L5": "class A:\n    def __hash__(self):\n        return 1\n", "L6": "def a(x):\n    x + 1\n",
    "L24 Set": "def a(x):\n    return {x}\n",
    "Python L19": "def a(x):\n    try:\n        return x\n    except KeyError:\n        return 1\n",
    "else L6": "class A(ValueError):\n    def b(self):\n        return 1\n\n\ndef c(x):\n    try:\n        x.pop()\n"
               "    except A:\n        return 1\n    else:\n        return 2\n",
    "star L4": "def a(*, x=[]):\n    return x\n", "math L2": "from math import comb\n\n\ndef a(x):\n    return comb(x, 2)\n",
    "twice L19": "class A(ValueError):\n    def b(self):\n        return 1\n\n\ndef c(x):\n    try:\n        x.pop()\n"
                 "    except A as x:\n        return 1\n",
}


def sources():
    found = {}
    for name in sorted(os.listdir(FOLDER)):
        if name != "__pycache__":
            with open(os.path.join(FOLDER, name), encoding="utf-8") as file:
                found[name] = file.read()
    return found


class Language(unittest.TestCase):
    def test_the_package_keeps_to_it(self):
        self.assertEqual(faults_of_package(sources()), [])

    def test_the_folder_has_python_files_alone(self):
        for name in sources():
            self.assertRegex(name, r"^[a-z_0-9]+\.py$")
        self.assertEqual([part for part, _, _ in os.walk(FOLDER) if not part.endswith("__pycache__")], [FOLDER])

    def test_what_is_outside_is_found(self):
        for rule, code in OUTSIDE.items():
            with self.subTest(rule=rule):
                found = faults_of_package({"one.py": HEAD + code, "other.py": HEAD})
                self.assertTrue(found)
                wanted = rule.split()[-1]
                self.assertTrue(any(re.search(rf"\b{wanted}\b", fault) for fault in found), found)
        circle = {"one.py": HEAD + "from kindredbush.two import b\n\n\ndef a():\n    return b()\n",
                  "two.py": HEAD + "from kindredbush.one import a\n\n\ndef b():\n    return a()\n"}
        self.assertTrue(any("circle" in fault for fault in faults_of_package(circle)))

    def test_no_warnings_and_nothing_but_the_package(self):
        """Each file can be imported first, by itself, without a warning of Python's."""
        for name in sources():
            module = "kindredbush." + name.removesuffix(".py")
            told = subprocess.run([sys.executable, "-B", "-W", "error", "-S", "-c", f"import {module}"], cwd=TOP,
                                  capture_output=True, check=False)
            self.assertEqual((told.returncode, told.stdout, told.stderr), (0, b"", b""))
