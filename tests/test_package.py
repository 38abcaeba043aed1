"""The package's form: what promise 1 bars, where the interface's names stand, and sizes."""

import ast
import pathlib
import unittest

PACKAGE = pathlib.Path(__file__).resolve().parent.parent / "stockfloor"

INTERFACE = {
    "errors.py": ("StockError", "BadWare", "BadPlace", "BadMany", "TooFew", "SamePlace",
                  "NoHold", "NoEntry", "NoLine"),
    "wishes.py": ("dealt",),
}

LIBRARY = ("__future__", "heapq", "math", "itertools", "collections")

# Clock, chance, files and the network need an import or one of these.
BARRED = ("open", "input", "print", "eval", "exec", "compile", "__import__", "globals", "hash", "id")


def sources():
    """Each file of the package with its text."""
    return [(path, path.read_bytes().decode("ascii")) for path in sorted(PACKAGE.rglob("*.py"))]


def nodes():
    """Each part of each file's syntax tree, with the file's name."""
    for path, text in sources():
        for node in ast.walk(ast.parse(text)):
            yield path.name, node


class Package(unittest.TestCase):
    def test_the_folder_contains_python_files_only(self):
        for path in PACKAGE.rglob("*"):
            if "__pycache__" not in path.parts and not path.is_dir():
                self.assertEqual(path.suffix, ".py", path)
        self.assertTrue((PACKAGE / "__init__.py").is_file())

    def test_each_name_of_the_interface_is_defined_in_its_file(self):
        for file, names in INTERFACE.items():
            tree = ast.parse((PACKAGE / file).read_text())
            defined = [node.name for node in tree.body if isinstance(node, (ast.ClassDef, ast.FunctionDef))]
            for name in names:
                with self.subTest(file=file, name=name):
                    self.assertEqual(defined.count(name), 1)

    def test_nothing_is_imported_but_the_package_and_what_is_allowed(self):
        for file, node in nodes():
            with self.subTest(file):
                self.assertNotIsInstance(node, ast.Import)
                if isinstance(node, ast.ImportFrom):
                    self.assertEqual(node.level, 0)
                    self.assertIn(node.module.split(".")[0], ("stockfloor", *LIBRARY))

    def test_no_name_that_reaches_files_or_what_changes_from_run_to_run(self):
        for file, node in nodes():
            if isinstance(node, ast.Name):
                with self.subTest(file):
                    self.assertNotIn(node.id, BARRED)

    def test_sizes_and_signs(self):
        for path, text in sources():
            lines = text.split("\n")
            with self.subTest(path.name):
                self.assertLess(len(lines), 400)
                self.assertLessEqual(max(len(line) for line in lines), 120)
                self.assertTrue(all(sign == "\n" or " " <= sign <= "~" for sign in text))

    def test_functions_are_small(self):
        for file, node in nodes():
            if isinstance(node, ast.FunctionDef):
                with self.subTest(file=file, name=node.name):
                    self.assertLessEqual(node.end_lineno - node.lineno + 1, 40)


if __name__ == "__main__":
    unittest.main()
