"""The form of the package: its files, what they define and import, their sizes, signs and statements."""

import ast
import builtins
import inspect
import pathlib
import unittest

import farhandles.books
import farhandles.faults
import farhandles.runs
import farhandles.sums
import farhandles.texts
import farhandles.verdicts
import farhandles.ways
import farhandles.weights
import farhandles.worlds
import farhandles.worths

FOLDER = pathlib.Path(__file__).resolve().parent.parent / "farhandles"
FILES = sorted(path for path in FOLDER.rglob("*") if "__pycache__" not in path.parts)
TREES = {path: ast.parse(path.read_text(encoding="utf-8")) for path in FILES if path.suffix == ".py"}
LIBRARY = ("heapq", "math", "itertools", "collections")
SIGNATURES = {
    farhandles.books: {"is_name": "value", "Book": "kinds handles rules start count"},
    farhandles.runs: {
        "stands": "book kind walk", "run_stands": "book run", "is_walk": "book kind value", "is_run": "book value",
        "mark": "book run",
    },
    farhandles.ways: {
        "alive": "book", "about": "book", "ending": "book", "way_to_nothing": "book kind",
        "shortest_about": "book kind", "shortest_end": "book kind",
    },
    farhandles.sums: {
        **{name: "book prices kind" for name in (
            "least_sum", "end_sum", "least_walk", "sink", "end_walk", "lift", "floor", "roof")},
        "is_floor": "book prices value", "is_roof": "book prices value",
        "is_sink": "book prices kind value", "is_lift": "book prices kind value",
    },
    farhandles.verdicts: {
        "is_right": "book", "paper": "book", "is_paper": "book value", "bad_run": "book", "decide": "book",
    },
    farhandles.worths: {
        "worths": "book", "two_walks": "book", "are_worths": "book value", "are_two_walks": "book value",
    },
    farhandles.weights: {
        "weights": "book untold", "bars": "book untold", "are_weights": "book untold value",
        "are_bars": "book untold value", "weighed": "book numbers",
    },
    farhandles.faults: {
        "faulty_stands": "book run letters most",
        **{name: "book letters most" for name in ("never_early", "early_run", "never_kept", "kept_run")},
        "is_never_early": "book letters most value", "is_never_kept": "book letters most value",
    },
    farhandles.worlds: {"World": "book", "replayed": "book events"},
    farhandles.texts: {"format_book": "book", "read_book": "text"},
}
# The methods of the classes; None stands for a property.
BODIES = {
    farhandles.books.Book: {
        **dict.fromkeys(("kinds", "handles", "rules", "start", "amount")), "rule_named": "name", "__eq__": "other",
    },
    farhandles.worlds.World: {
        **dict.fromkeys(("book", "things", "history")), "make": "thing", "step": "thing rule holder",
        "hand": "thing kind holder other", "undo": "", "fork": "", "count_of": "thing", "held": "thing holder",
        **dict.fromkeys(("freed", "freed_early", "reached", "idle", "ring"), ""),
    },
}
BUILTINS = set("""
    len range enumerate zip min max sum abs sorted reversed int str bool list tuple dict set isinstance ord repr any all
    divmod ValueError property
""".split())
METHODS = set("""
    append clear copy count endswith extend find get index insert isalnum isalpha isdigit items join keys lower pop remove
    replace reverse setdefault split startswith strip update upper values zfill
""".split())
# No list may be given to these but as a list: a generator would call the comparison of books.
BARRED = (ast.GeneratorExp, ast.Set, ast.SetComp, ast.Lambda, ast.Pow, ast.Div, ast.Global, ast.AsyncFunctionDef)


def nodes_of(kind):
    return [(path, node) for path, tree in TREES.items() for node in ast.walk(tree) if isinstance(node, kind)]


class Form(unittest.TestCase):
    def test_only_python_files(self):
        self.assertIn(FOLDER / "__init__.py", FILES)
        for path in FILES:
            self.assertEqual(path.suffix, ".py", path)

    def test_sizes_and_signs(self):
        for path in FILES:
            text = path.read_text(encoding="utf-8")
            self.assertLessEqual(len(text.splitlines()), 399, path)
            for line in text.splitlines():
                self.assertLessEqual(len(line), 120, line)
                self.assertTrue(all(" " <= sign <= "~" for sign in line), line)

    def test_functions_are_short(self):
        for path, node in nodes_of(ast.FunctionDef):
            self.assertLessEqual(node.end_lineno - node.lineno + 1, 40, f"{path.name} {node.name}")

    def test_imports(self):
        self.assertEqual(nodes_of(ast.Import), [])
        for path, node in nodes_of(ast.ImportFrom):
            self.assertEqual(node.level, 0, path)
            self.assertIn(node.module.split(".")[0], ("farhandles", *LIBRARY), path)
            self.assertIn(node, TREES[path].body, path)
            if node.module.startswith("farhandles."):
                own = TREES[FOLDER / (node.module.split(".")[1] + ".py")]
                defined = {each.name for each in own.body if isinstance(each, (ast.FunctionDef, ast.ClassDef))}
                self.assertTrue({name.name for name in node.names} <= defined, f"{path.name} {node.module}")

    def test_no_two_files_import_each_other(self):
        imports = {path.stem: set() for path in TREES}
        for path, node in nodes_of(ast.ImportFrom):
            imports[path.stem].update(node.module.split(".")[1:])
        for _ in imports:
            for name in imports:
                imports[name] = imports[name].union(*(imports[other] for other in imports[name]))
        for name, others in imports.items():
            self.assertNotIn(name, others)

    def test_module_level(self):
        for path, tree in TREES.items():
            self.assertIsInstance(ast.get_docstring(tree), str, path)
            for node in tree.body[1:]:
                self.assertIsInstance(node, (ast.ImportFrom, ast.FunctionDef, ast.ClassDef, ast.Assign), path)
                if isinstance(node, ast.Assign):
                    ast.literal_eval(node.value)

    def test_what_the_language_leaves_out(self):
        for path, node in nodes_of(BARRED):
            self.fail(f"{path.name} has {node}, line {getattr(node, 'lineno', '?')}")
        for path, node in nodes_of(ast.FunctionDef):
            for each in node.decorator_list:
                self.assertEqual(each.id, "property", f"{path.name} {node.name}")
        for path, node in nodes_of(ast.Compare):
            for sign, other in zip(node.ops, node.comparators):
                if isinstance(sign, (ast.Is, ast.IsNot)):
                    self.assertIn(other.value, (None, True, False), f"{path.name} line {node.lineno}")

    def test_names(self):
        for path, tree in TREES.items():
            own = {node.name for node in tree.body if isinstance(node, (ast.FunctionDef, ast.ClassDef))}
            barred = {node.name for node in tree.body if isinstance(node, ast.ClassDef)}
            barred |= {name.name for node in tree.body if isinstance(node, ast.ImportFrom) for name in node.names}
            bound = {node.id for node in ast.walk(tree) if isinstance(node, ast.Name) and not isinstance(node.ctx, ast.Load)}
            bound |= {node.arg for node in ast.walk(tree) if isinstance(node, ast.arg)}
            self.assertEqual(bound & (barred | own), set(), path)
            self.assertEqual((bound | own) & set(dir(builtins)), set(), path)
            for node in ast.walk(tree):
                if isinstance(node, ast.Name) and isinstance(node.ctx, ast.Load):
                    self.assertIn(node.id, bound | barred | own | BUILTINS, f"{path.name} line {node.lineno}")

    def test_attributes(self):
        classes = [node for _, node in nodes_of(ast.ClassDef)]
        functions = [each for node in classes for each in node.body if isinstance(each, ast.FunctionDef)]
        properties = {each.name for each in functions if each.decorator_list}
        methods = {each.name for each in functions if not each.decorator_list}
        stored = {node.attr for _, node in nodes_of(ast.Attribute) if isinstance(node.ctx, ast.Store)}
        self.assertEqual(stored & (properties | methods), set())
        for path, node in nodes_of(ast.Attribute):
            self.assertIn(node.attr, stored | properties | methods | METHODS, f"{path.name} line {node.lineno}")
            self.assertFalse(node.attr in METHODS and node.attr in stored, node.attr)

    def test_interface(self):
        for module, table in SIGNATURES.items():
            for name, parameters in table.items():
                thing = getattr(module, name)
                self.assertEqual(thing.__module__, module.__name__)
                self.assertEqual(list(inspect.signature(thing).parameters), parameters.split(), name)

    def test_classes_have_their_methods_in_their_own_bodies(self):
        for each, table in BODIES.items():
            body = vars(each)
            for name, parameters in table.items():
                if parameters is None:
                    self.assertIsInstance(body[name], property, name)
                else:
                    self.assertEqual(list(inspect.signature(body[name]).parameters), ["self", *parameters.split()], name)
