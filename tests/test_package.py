"""What holds for the package as a whole: its interface, and what point 1 keeps out."""

import ast
import pathlib
import unittest

from packdelta import changes

PACKAGE = pathlib.Path(changes.__file__).parent

# With no import from outside, these builtins would be the only way to files and to more modules.
KEPT_OUT = ("open", "input", "print", "eval", "exec", "compile", "breakpoint", "__import__")


def trees():
    """The name and the parsed text of each file of the package."""
    for path in sorted(PACKAGE.rglob("*.py")):
        yield path.name, ast.parse(path.read_text(encoding="utf-8"))


class InterfaceTest(unittest.TestCase):
    DEFINED = {
        "errors.py": ("PackError", "BadBound", "BadRows", "InRing", "NoFit", "NoVersion", "TooFar"),
        "changes.py": ("done", "turned", "change_of"),
    }

    def test_each_name_is_defined_in_its_file(self):
        found = dict(trees())
        for name, wanted in self.DEFINED.items():
            defined = [part.name for part in found[name].body
                       if isinstance(part, (ast.FunctionDef, ast.ClassDef))]
            for one in wanted:
                with self.subTest(file=name, name=one):
                    self.assertIn(one, defined)

    def test_the_arguments_have_the_names_of_the_interface(self):
        self.assertEqual(changes.done(text="ab", change=(0, "a", "x")), "xb")
        self.assertEqual(changes.turned(change=(0, "a", "x")), (0, "x", "a"))
        self.assertEqual(changes.change_of(old="ab", new="xb"), (0, "a", "x"))


class NothingFromOutsideTest(unittest.TestCase):
    """Point 1: no clock, no chance, no files."""

    def test_files_import_from_the_package_only(self):
        for name, tree in trees():
            for part in ast.walk(tree):
                with self.subTest(file=name):
                    self.assertNotIsInstance(part, ast.Import)
                    if isinstance(part, ast.ImportFrom):
                        self.assertTrue((part.module or "").startswith("packdelta."))

    def test_no_builtin_that_reaches_outside(self):
        for name, tree in trees():
            used = [part.id for part in ast.walk(tree) if isinstance(part, ast.Name)]
            for one in KEPT_OUT:
                with self.subTest(file=name, builtin=one):
                    self.assertNotIn(one, used)


if __name__ == "__main__":
    unittest.main()
