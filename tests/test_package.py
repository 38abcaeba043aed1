"""The package's form: what promise 1 bars, where the interface's names stand, and sizes."""

import ast
import pathlib
import unittest

PACKAGE = pathlib.Path(__file__).resolve().parent.parent / "stockfloor"

CLASSES = {
    "errors.py": ("StockError", "BadWare", "BadPlace", "BadMany", "TooFew", "SamePlace",
                  "NoHold", "NoEntry", "NoLine"),
    "floor.py": ("Floor",),
}

FUNCTIONS = {
    "wishes.py": {"dealt": ["rooms", "many"]},
    "book.py": {"done": ["floor", "entry"], "replayed": ["book"], "fault": ["book"]},
    "notes.py": {"shown": ["entry"], "read": ["line"]},
}

METHODS = {
    "come": ["place", "ware", "many"],
    "go": ["place", "ware", "many"],
    "move": ["start", "goal", "ware", "many"],
    "let": ["number"],
    "take": ["number"],
    "shift": ["number", "goal"],
    "hold": ["place", "ware", "many"],
    "counted": ["place", "ware", "many"],
    "wish": ["ware", "many"],
    "there": ["place", "ware"],
    "held": ["place", "ware"],
    "free": ["place", "ware"],
    "whole": ["ware"],
    "came": ["ware"],
    "went": ["ware"],
    "righted": ["ware"],
    "places": ["ware"],
    "numbers": [],
    "holding": ["number"],
    "book": [],
}

LIBRARY = ("__future__", "heapq", "math", "itertools", "collections")

# Clock, chance, files and the network need an import or one of these.
BARRED = ("open", "input", "print", "eval", "exec", "compile", "__import__", "globals", "hash", "id")


def sources():
    """Each file of the package with its text."""
    return [(path, path.read_bytes().decode("ascii")) for path in sorted(PACKAGE.rglob("*.py"))]


def nodes():
    """Each part of each file's syntax tree, with the file's name."""
    for path, text in sources():
        for node in ast.walk(ast.parse(text)):
            yield path.name, node


def defined(within, kind):
    """The classes or functions that stand in the body of a file or a class."""
    return [node for node in within.body if isinstance(node, kind)]


def plain_arguments(function):
    """The names of a function's arguments; all that stands in its head, so that a star or a default shows."""
    return ast.unparse(function.args).split(", ") if ast.unparse(function.args) else []


class Package(unittest.TestCase):
    def test_the_folder_contains_python_files_only(self):
        for path in PACKAGE.rglob("*"):
            if "__pycache__" not in path.parts and not path.is_dir():
                self.assertEqual(path.suffix, ".py", path)
        self.assertTrue((PACKAGE / "__init__.py").is_file())

    def test_each_class_of_the_interface_is_defined_in_its_file(self):
        for file, names in CLASSES.items():
            classes = defined(ast.parse((PACKAGE / file).read_text()), ast.ClassDef)
            for name in names:
                with self.subTest(file=file, name=name):
                    self.assertEqual([node.name for node in classes].count(name), 1)

    def test_each_function_of_the_interface_is_defined_in_its_file(self):
        for file, functions in FUNCTIONS.items():
            found = defined(ast.parse((PACKAGE / file).read_text()), ast.FunctionDef)
            for name, arguments in functions.items():
                with self.subTest(file=file, name=name):
                    self.assertEqual([plain_arguments(node) for node in found if node.name == name], [arguments])

    def test_each_method_of_a_floor_is_defined_in_its_class(self):
        classes = defined(ast.parse((PACKAGE / "floor.py").read_text()), ast.ClassDef)
        floor = [node for node in classes if node.name == "Floor"][0]
        methods = {node.name: plain_arguments(node) for node in defined(floor, ast.FunctionDef)}
        for name, arguments in METHODS.items():
            with self.subTest(name):
                self.assertEqual(methods[name], ["self", *arguments])
        self.assertEqual(methods["__init__"], ["self"])

    def test_nothing_is_imported_but_the_package_and_what_is_allowed(self):
        for file, node in nodes():
            with self.subTest(file):
                self.assertNotIsInstance(node, ast.Import)
                if isinstance(node, ast.ImportFrom):
                    self.assertEqual(node.level, 0)
                    self.assertIn(node.module.split(".")[0], ("stockfloor", *LIBRARY))

    def test_no_name_that_reaches_files_or_what_changes_from_run_to_run(self):
        for file, node in nodes():
            if isinstance(node, ast.Name):
                with self.subTest(file):
                    self.assertNotIn(node.id, BARRED)

    def test_sizes_and_signs(self):
        for path, text in sources():
            lines = text.split("\n")
            with self.subTest(path.name):
                self.assertLess(len(lines), 400)
                self.assertLessEqual(max(len(line) for line in lines), 120)
                self.assertTrue(all(sign == "\n" or " " <= sign <= "~" for sign in text))

    def test_functions_are_small(self):
        for file, node in nodes():
            if isinstance(node, ast.FunctionDef):
                with self.subTest(file=file, name=node.name):
                    self.assertLessEqual(node.end_lineno - node.lineno + 1, 40)


if __name__ == "__main__":
    unittest.main()
