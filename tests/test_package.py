"""What holds for the package as a whole: its interface, and what point 1 keeps out."""

import ast
import pathlib
import unittest

from packdelta import changes, opening, packs, trees

PACKAGE = pathlib.Path(changes.__file__).parent

# With no import from outside, these builtins would be the only way to files and to more modules.
KEPT_OUT = ("open", "input", "print", "eval", "exec", "compile", "breakpoint", "__import__")


def files():
    """The name and the parsed text of each file of the package."""
    for path in sorted(PACKAGE.rglob("*.py")):
        yield path.name, ast.parse(path.read_text(encoding="utf-8"))


class InterfaceTest(unittest.TestCase):
    DEFINED = {
        "errors.py": ("PackError", "BadBound", "BadRows", "InRing", "NoFit", "NoVersion", "TooFar"),
        "changes.py": ("done", "turned", "change_of"),
        "trees.py": ("chain_of", "reach", "middle"),
        "packs.py": ("Pack",),
        "opening.py": ("opened",),
    }

    METHODS = ("store", "read", "base", "chain", "numbers", "bases", "rows", "weight", "root",
               "lean", "forget")

    def test_each_name_is_defined_in_its_file(self):
        found = dict(files())
        for name, wanted in self.DEFINED.items():
            defined = [part.name for part in found[name].body
                       if isinstance(part, (ast.FunctionDef, ast.ClassDef))]
            for one in wanted:
                with self.subTest(file=name, name=one):
                    self.assertIn(one, defined)

    def test_each_method_is_defined_in_the_class_itself(self):
        pack = [part for part in dict(files())["packs.py"].body if isinstance(part, ast.ClassDef)
                and part.name == "Pack"][0]
        defined = [part.name for part in pack.body if isinstance(part, ast.FunctionDef)]
        for one in self.METHODS:
            with self.subTest(method=one):
                self.assertIn(one, defined)

    def test_the_bound_is_a_field_of_each_pack(self):
        self.assertEqual(vars(packs.Pack(7))["bound"], 7)
        self.assertEqual(vars(opening.opened([], 8))["bound"], 8)
        self.assertFalse(hasattr(packs.Pack, "bound"))

    def test_the_deeds_give_what_the_interface_says(self):
        pack = packs.Pack(bound=3)
        self.assertEqual(pack.store(text="a", beside=None), 0)
        self.assertEqual(pack.store(text="b", beside=0), 1)
        self.assertIsNone(pack.root(number=1))
        self.assertIsNone(pack.lean(number=0, other=1))
        self.assertEqual((pack.read(number=0), pack.base(number=0)), ("a", 1))
        self.assertEqual(pack.chain(number=0), [0, 1])
        self.assertIsNone(pack.forget(number=1))
        self.assertEqual(opening.opened(rows=pack.rows(), bound=3).rows(), [(0, None, "a")])

    def test_the_arguments_have_the_names_of_the_interface(self):
        self.assertEqual(changes.done(text="ab", change=(0, "a", "x")), "xb")
        self.assertEqual(changes.turned(change=(0, "a", "x")), (0, "x", "a"))
        self.assertEqual(changes.change_of(old="ab", new="xb"), (0, "a", "x"))
        self.assertEqual(trees.chain_of(bases={0: None, 1: 0}, number=1), [1, 0])
        self.assertEqual(trees.reach(bases={0: None, 1: 0}, number=1), 1)
        self.assertEqual(trees.middle(bases={0: None, 1: 0}, number=0), 1)


class NothingFromOutsideTest(unittest.TestCase):
    """Point 1: no clock, no chance, no files."""

    def test_files_import_from_the_package_only(self):
        for name, tree in files():
            for part in ast.walk(tree):
                with self.subTest(file=name):
                    self.assertNotIsInstance(part, ast.Import)
                    if isinstance(part, ast.ImportFrom):
                        self.assertTrue((part.module or "").startswith("packdelta."))

    def test_no_builtin_that_reaches_outside(self):
        for name, tree in files():
            used = [part.id for part in ast.walk(tree) if isinstance(part, ast.Name)]
            for one in KEPT_OUT:
                with self.subTest(file=name, builtin=one):
                    self.assertNotIn(one, used)


if __name__ == "__main__":
    unittest.main()
