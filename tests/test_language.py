"""The package keeps to the rules of LANGUAGE.md, as far as a reader of trees can see them."""

import pathlib
import re
import tempfile
import unittest
import warnings

from tests.language import PACKAGE, Package

# Each of these is sent back, with the rule by which it is.
SENT_BACK = (
    ("L6", "import os\n"),
    ("L2", "from os import path\n"),
    ("L3", "A = len([1])\n"),
    ("L4", "@cache\ndef f():\n    return 1\n"),
    ("L6", "def f(xs):\n    return any(x for x in xs)\n"),
    ("L7", "def f(x):\n    return x * 1.5\n"),
    ("L8", "def f(xs):\n    return map(f, xs)\n"),
    ("L10", "def f():\n" + "    f()\n" * 40),
    ("L15", "def f(max):\n    return max\n"),
    ("L15", "A = {}\n\n\ndef f():\n    return A\n"),
    ("L17", "def f(x):\n    return type(x)\n"),
    ("L19", "def f():\n    try:\n        f()\n    except Exception:\n        pass\n"),
    ("L20", "def f(x):\n    return x is f\n"),
    ("L21", "def f(x: int):\n    return x\n"),
    ("L23", "def f(xs):\n    return range(xs)\n"),
    ("L23", "def f(xs):\n    for x in xs:\n        xs.append(x)\n"),
    ("L24", "def f(xs):\n    return set(xs)\n"),
    ("L25", "def f(xs):\n    xs.encode()\n"),
    ("L27", "def f(x):\n    return 'a%s'\n"),
    ("L5", "class A:\n    def __and__(self, other):\n        other.rows.append(1)\n        return other\n"),
    ("L5", "def f(x):\n    x.append(1)\n\n\nclass A:\n    def __len__(self):\n        f(self)\n        return len([])\n"),
    ("L6", "def f(x):\n    try:\n        return x\n    finally:\n        x.append(1)\n"),
    ("L4", "def f(x):\n    return lambda y, z=x: y + z\n"),
    ("L19", "def f():\n    try:\n        f()\n    except (KeyError, TypeError):\n        pass\n"),
    ("L28", "class A:\n    def __len__(self):\n        return 1 + 1\n"),
)


class LanguageTest(unittest.TestCase):
    def test_files_keep_the_rules(self):
        self.assertEqual(Package().complaints(), [])

    def test_folder_holds_plain_files_alone(self):
        for path in PACKAGE.iterdir():
            if path.name != "__pycache__":
                self.assertRegex(path.name, re.compile(r"^([a-z][a-z0-9_]*|__init__)\.py$"))

    def test_every_file_warns_of_nothing(self):
        for path in PACKAGE.glob("*.py"):
            with self.subTest(path.name):
                with warnings.catch_warnings():
                    warnings.simplefilter("error")
                    compile(path.read_text(), str(path), "exec")

    def test_what_is_sent_back_is_found(self):
        for rule, text in SENT_BACK:
            with self.subTest(text), tempfile.TemporaryDirectory() as folder:
                place = pathlib.Path(folder)
                for name in ("errors", "refusals"):
                    (place / (name + ".py")).write_text("")
                (place / "tried.py").write_text(text)
                rules = {told.split(": ")[1] for told in Package(place).complaints()}
                self.assertIn(rule, rules)


if __name__ == "__main__":
    unittest.main()
