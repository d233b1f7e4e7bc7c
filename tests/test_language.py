"""The package keeps to the rules of LANGUAGE.md, as far as a reader of trees can see them."""

import re
import unittest

from tests.language import PACKAGE, Package


class LanguageTest(unittest.TestCase):
    def test_files_keep_the_rules(self):
        self.assertEqual(Package().complaints(), [])

    def test_folder_holds_plain_files_alone(self):
        for path in PACKAGE.iterdir():
            if path.name != "__pycache__":
                self.assertRegex(path.name, re.compile(r"^([a-z][a-z0-9_]*|__init__)\.py$"))

    def test_every_file_warns_of_nothing(self):
        for path in PACKAGE.glob("*.py"):
            with self.subTest(path.name):
                import warnings

                with warnings.catch_warnings():
                    warnings.simplefilter("error")
                    compile(path.read_text(), str(path), "exec")


if __name__ == "__main__":
    unittest.main()
