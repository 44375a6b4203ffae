"""The interface: its names, where they are defined, and their arguments; and what the package leaves alone."""

import ast
import builtins
import importlib
import inspect
import pathlib
import unittest

import redpaint

FOLDER = pathlib.Path(redpaint.__file__).parent

FUNCTIONS = {
    "knots": ("knot(paint, left, key, thing, right)", "size_of(tree)"),
    "looking": (
        "pairs_of(tree)", "road_to(tree, key)", "thing_of(tree, key)", "has_key(tree, key)",
        "pair_at(tree, place)", "count_below(tree, key)", "pair_ahead(tree, key)", "pair_behind(tree, key)",
        "pairs_between(tree, low, high)",
    ),
    "joining": ("joined(one, key, thing, other)", "laid(one, other)", "cut_at(tree, key)"),
    "deeds": ("put(tree, key, thing)", "taken(tree, key)", "raised(pairs)"),
    "unions": ("united(one, other)", "common(one, other)", "without(one, other)"),
    "checking": ("faults_of(tree)",),
}
METHODS = {"__init__": "(self, tree)", "step": "(self)", "back": "(self)", "seek": "(self, key)"}
ERRORS = ("TreeError", "NoKey", "NoPlace", "NotApart", "NotRising")

# Each of these would reach files, chance, the clock or code from outside.
BARRED = ("open", "input", "print", "eval", "exec", "compile", "breakpoint")


def module(name):
    return importlib.import_module(f"redpaint.{name}")


def files():
    return sorted(FOLDER.rglob("*.py"))


class Interface(unittest.TestCase):

    def test_functions(self):
        for name, wanted in FUNCTIONS.items():
            for line in wanted:
                found = getattr(module(name), line.partition("(")[0])
                self.assertTrue(inspect.isfunction(found))
                self.assertEqual(found.__module__, f"redpaint.{name}")
                self.assertEqual(f"{found.__name__}{inspect.signature(found)}", line)

    def test_errors(self):
        for name in ERRORS:
            self.assertEqual(getattr(module("errors"), name).__module__, "redpaint.errors")

    def test_walk(self):
        walk = module("walks").Walk
        self.assertEqual(walk.__module__, "redpaint.walks")
        for name, wanted in METHODS.items():
            self.assertEqual(str(inspect.signature(vars(walk)[name])), wanted)
        self.assertLessEqual({"place", "tree"}, set(vars(walk(None))))

    def test_arguments_by_their_names(self):
        put, has_key = module("deeds").put, module("looking").has_key
        tree = put(tree=None, key=3, thing="three")
        self.assertTrue(has_key(tree=tree, key=3))
        self.assertEqual(module("walks").Walk(tree=tree).step(), (3, "three"))


class LeftAlone(unittest.TestCase):

    def test_only_plain_files_in_one_folder(self):
        for path in FOLDER.iterdir():
            if path.name != "__pycache__":
                self.assertEqual(path.suffix, ".py")
        self.assertTrue((FOLDER / "__init__.py").is_file())

    def test_only_the_package_itself_is_imported(self):
        for path in files():
            for node in ast.walk(ast.parse(path.read_text())):
                self.assertNotIsInstance(node, ast.Import)
                if isinstance(node, ast.ImportFrom):
                    self.assertEqual(node.level, 0)
                    self.assertEqual(node.module.partition(".")[0], "redpaint")

    def test_no_clock_chance_or_files(self):
        self.assertTrue(all(hasattr(builtins, name) for name in BARRED))
        for path in files():
            for node in ast.walk(ast.parse(path.read_text())):
                if isinstance(node, ast.Name):
                    self.assertNotIn(node.id, BARRED)


if __name__ == "__main__":
    unittest.main()
