"""Point 1 over the whole program: no clock, no chance, no files; and the interface's names and arguments."""

import ast
import inspect
import pathlib
import unittest

import peghall
from peghall import day, hanging, pegs

PACKAGE = pathlib.Path(peghall.__file__).parent
# All that Python brings along by itself and the package's files may call upon.
OWN_OF_PYTHON = ("len", "list", "range")


def trees():
    return [(path.name, ast.parse(path.read_text(encoding="utf-8"))) for path in sorted(PACKAGE.glob("*.py"))]


def bound_names(tree):
    """The names that a file itself gives a meaning to."""
    names = set()
    for node in ast.walk(tree):
        if isinstance(node, ast.FunctionDef):
            names.add(node.name)
            names.update(argument.arg for argument in node.args.args)
        elif isinstance(node, ast.ImportFrom):
            names.update(alias.name for alias in node.names)
        elif isinstance(node, ast.Name) and isinstance(node.ctx, ast.Store):
            names.add(node.id)
    return names


class NothingFromOutside(unittest.TestCase):
    def test_the_files_of_the_package(self):
        self.assertEqual([name for name, tree in trees()], ["__init__.py", "day.py", "hanging.py", "pegs.py"])

    def test_imports_are_the_package_s_own(self):
        for name, tree in trees():
            for node in ast.walk(tree):
                self.assertNotIsInstance(node, ast.Import, name)
                if isinstance(node, ast.ImportFrom):
                    self.assertIn(node.module, ("peghall.pegs", "peghall.hanging"), name)
                    self.assertEqual(node.level, 0, name)

    def test_names_are_the_package_s_own(self):
        for name, tree in trees():
            free = {node.id for node in ast.walk(tree) if isinstance(node, ast.Name)} - bound_names(tree)
            self.assertLessEqual(free, set(OWN_OF_PYTHON), name)

    def test_rows_and_signs(self):
        for path in PACKAGE.glob("*.py"):
            text = path.read_text(encoding="utf-8")
            self.assertTrue(all(sign == "\n" or " " <= sign <= "~" for sign in text), path.name)
            self.assertLessEqual(max(len(row) for row in text.split("\n")), 120, path.name)


class Interface(unittest.TestCase):
    def test_names_and_arguments(self):
        told = (
            (pegs.own_peg, ["number", "size"]),
            (pegs.peg_of, ["rack", "number"]),
            (pegs.way_of, ["rack", "number"]),
            (hanging.hung, ["rack", "number"]),
            (hanging.taken, ["rack", "number"]),
            (hanging.changed, ["rack", "size"]),
            (day.answers, ["deeds"]),
            (day.rack_behind, ["deeds"]),
            (day.sizes, ["deeds"]),
        )
        for function, arguments in told:
            self.assertEqual(list(inspect.signature(function).parameters), arguments, function.__name__)


if __name__ == "__main__":
    unittest.main()
