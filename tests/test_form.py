"""The form of the package: its files, what they define and import, their sizes and signs."""

import ast
import inspect
import pathlib
import unittest

import farhandles.books
import farhandles.errors
import farhandles.ways

FOLDER = pathlib.Path(__file__).resolve().parent.parent / "farhandles"
FILES = sorted(path for path in FOLDER.rglob("*") if "__pycache__" not in path.parts)
LIBRARY = ("heapq", "math", "itertools", "collections")
SIGNATURES = {
    farhandles.books: {"is_name": "value", "Book": "kinds handles rules start count"},
    farhandles.ways: {
        "alive": "book", "about": "book", "ending": "book", "way_to_nothing": "book kind",
        "shortest_about": "book kind", "shortest_end": "book kind",
    },
}


class Form(unittest.TestCase):
    def test_only_python_files(self):
        self.assertIn(FOLDER / "__init__.py", FILES)
        for path in FILES:
            self.assertEqual(path.suffix, ".py", path)

    def test_sizes_and_signs(self):
        for path in FILES:
            text = path.read_text(encoding="utf-8")
            self.assertLessEqual(len(text.splitlines()), 399, path)
            for line in text.splitlines():
                self.assertLessEqual(len(line), 120, line)
                self.assertTrue(all(" " <= sign <= "~" for sign in line), line)

    def test_functions_are_short(self):
        for path in FILES:
            for node in ast.walk(ast.parse(path.read_text(encoding="utf-8"))):
                if isinstance(node, ast.FunctionDef):
                    self.assertLessEqual(node.end_lineno - node.lineno + 1, 40, f"{path.name} {node.name}")

    def test_imports(self):
        for path in FILES:
            for node in ast.walk(ast.parse(path.read_text(encoding="utf-8"))):
                self.assertNotIsInstance(node, ast.Import, path)
                if isinstance(node, ast.ImportFrom):
                    self.assertEqual(node.level, 0, path)
                    self.assertIn(node.module.split(".")[0], ("farhandles", *LIBRARY), path)

    def test_interface(self):
        for module, table in SIGNATURES.items():
            for name, parameters in table.items():
                thing = getattr(module, name)
                self.assertEqual(thing.__module__, module.__name__)
                self.assertEqual(list(inspect.signature(thing).parameters), parameters.split(), name)

    def test_book_has_its_methods_in_its_own_body(self):
        body = vars(farhandles.books.Book)
        for name in ("kinds", "handles", "rules", "start", "amount"):
            self.assertIsInstance(body[name], property)
        self.assertEqual(list(inspect.signature(body["rule_named"]).parameters), ["self", "name"])
        self.assertIn("__eq__", body)
