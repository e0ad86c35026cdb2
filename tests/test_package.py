"""The package as a whole: what its files hold and what they take from outside."""

import ast
import pathlib
import unittest

import restrow
from restrow import bases, board, errors, mending, sums

FOLDER = pathlib.Path(restrow.__file__).parent

# What would bring in a clock, chance, files or other things from outside.
BARRED = ("open", "input", "print", "eval", "exec", "compile", "globals", "hash", "id")

INTERFACE = (
    (errors, ("RestError", "NoBases", "NoRow", "NoNumber", "NoPlace", "NoTurn", "OutOfRoom", "Lost")),
    (bases, ("common", "turned")),
    (board, ("Board",)),
    (sums, ("added", "taken", "times", "halved")),
    (mending, ("refilled", "mended")),
)


def trees():
    return [(path.name, ast.parse(path.read_text("utf-8"))) for path in sorted(FOLDER.glob("*.py"))]


class Package(unittest.TestCase):
    def test_the_files(self):
        names = [path.name for path in FOLDER.iterdir() if path.name != "__pycache__"]
        for name in ("__init__.py", "errors.py", "bases.py", "board.py", "sums.py", "mending.py"):
            self.assertIn(name, names)
        for name in names:
            self.assertTrue(name.endswith(".py"), name)

    def test_the_interface_is_defined_in_its_files(self):
        for module, names in INTERFACE:
            name_of_file = module.__name__.split(".")[1] + ".py"
            defined = [part.name for part in dict(trees())[name_of_file].body
                       if isinstance(part, (ast.FunctionDef, ast.ClassDef))]
            for name in names:
                with self.subTest(name):
                    self.assertIn(name, defined)
                    self.assertEqual(getattr(module, name).__module__, module.__name__)

    def test_the_methods_are_defined_in_the_class(self):
        for name in ("room", "rests", "figures", "tells", "number", "compared"):
            self.assertIn(name, vars(board.Board))

    def test_the_arguments_can_be_named(self):
        self.assertEqual(bases.common(one=12, other=18), 6)
        self.assertEqual(bases.turned(number=3, base=7), 5)
        made = board.Board(bases=[3, 5, 7, 11])
        eight, six = made.rests(number=8), made.rests(number=6)
        self.assertEqual(made.figures(row=eight), [2, 2, 0, 0])
        self.assertIs(made.tells(row=eight), True)
        self.assertEqual(made.number(row=eight), 8)
        self.assertEqual(made.compared(one=eight, other=six), 1)
        self.assertEqual(made.number(sums.added(board=made, one=eight, other=six)), 14)
        self.assertEqual(made.number(sums.taken(board=made, one=eight, other=six)), 2)
        self.assertEqual(made.number(sums.times(board=made, one=six, other=made.rests(2))), 12)
        self.assertEqual(sums.halved(board=made, row=eight), (made.rests(4), 0))
        self.assertEqual(mending.refilled(board=made, row=eight, place=2), eight)
        self.assertEqual(mending.mended(board=made, row=eight), (eight, None))

    def test_no_clock_chance_or_files(self):
        for name, tree in trees():
            for part in ast.walk(tree):
                with self.subTest(name):
                    self.assertNotIsInstance(part, ast.Import)
                    if isinstance(part, ast.ImportFrom):
                        self.assertTrue(part.module.startswith("restrow."), part.module)
                    if isinstance(part, ast.Name):
                        self.assertNotIn(part.id, BARRED)

    def test_only_whole_numbers(self):
        for name, tree in trees():
            for part in ast.walk(tree):
                with self.subTest(name):
                    self.assertNotIsInstance(part, ast.Div)
                    if isinstance(part, ast.Constant):
                        self.assertNotIsInstance(part.value, (float, complex))

    def test_plain_characters_and_sizes(self):
        for path in sorted(FOLDER.glob("*.py")):
            lines = path.read_text("utf-8").split("\n")
            with self.subTest(path.name):
                self.assertLess(len(lines), 400)
                self.assertLessEqual(max(len(line) for line in lines), 120)
                self.assertTrue(all(" " <= sign <= "~" for line in lines for sign in line))


if __name__ == "__main__":
    unittest.main()
