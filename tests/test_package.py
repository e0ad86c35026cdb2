"""The package as a whole: what its files hold and what they take from outside."""

import ast
import pathlib
import unittest

import restrow
from restrow import bases

FOLDER = pathlib.Path(restrow.__file__).parent

# What would bring in a clock, chance, files or other things from outside.
BARRED = ("open", "input", "print", "eval", "exec", "compile", "globals", "hash", "id")


def trees():
    return [(path.name, ast.parse(path.read_text("utf-8"))) for path in sorted(FOLDER.glob("*.py"))]


class Package(unittest.TestCase):
    def test_the_files(self):
        names = [path.name for path in FOLDER.iterdir() if path.name != "__pycache__"]
        for name in ("__init__.py", "errors.py", "bases.py"):
            self.assertIn(name, names)
        for name in names:
            self.assertTrue(name.endswith(".py"), name)

    def test_functions_are_defined_in_their_file(self):
        tree = dict(trees())["bases.py"]
        defined = [part.name for part in tree.body if isinstance(part, ast.FunctionDef)]
        for name in ("common", "turned"):
            self.assertIn(name, defined)
            self.assertEqual(getattr(bases, name).__module__, "restrow.bases")

    def test_the_arguments_can_be_named(self):
        self.assertEqual(bases.common(one=12, other=18), 6)
        self.assertEqual(bases.turned(number=3, base=7), 5)

    def test_no_clock_chance_or_files(self):
        for name, tree in trees():
            for part in ast.walk(tree):
                with self.subTest(name):
                    self.assertNotIsInstance(part, ast.Import)
                    if isinstance(part, ast.ImportFrom):
                        self.assertTrue(part.module.startswith("restrow."), part.module)
                    if isinstance(part, ast.Name):
                        self.assertNotIn(part.id, BARRED)

    def test_only_whole_numbers(self):
        for name, tree in trees():
            for part in ast.walk(tree):
                with self.subTest(name):
                    self.assertNotIsInstance(part, ast.Div)
                    if isinstance(part, ast.Constant):
                        self.assertNotIsInstance(part.value, (float, complex))

    def test_plain_characters_and_sizes(self):
        for path in sorted(FOLDER.glob("*.py")):
            lines = path.read_text("utf-8").split("\n")
            with self.subTest(path.name):
                self.assertLess(len(lines), 400)
                self.assertLessEqual(max(len(line) for line in lines), 120)
                self.assertTrue(all(" " <= sign <= "~" for line in lines for sign in line))


if __name__ == "__main__":
    unittest.main()
