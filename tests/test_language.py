"""What can be told from the code alone: the interface, and the plain rules of the language subset."""

import ast
import builtins
import importlib
import inspect
import pathlib
import re
import unittest

FOLDER = pathlib.Path(__file__).resolve().parent.parent / "keepbefore"
FILES = sorted(path for path in FOLDER.rglob("*") if path.is_file() and "__pycache__" not in path.parts)

ALLOWED_BUILTINS = set("""
    len range enumerate zip min max sum abs sorted reversed int str bool bytes list tuple dict set frozenset
    isinstance ord repr any all divmod pow getattr hasattr setattr iter next map super
    property staticmethod classmethod object float
    Exception ValueError TypeError KeyError IndexError LookupError ZeroDivisionError ArithmeticError
    OverflowError RuntimeError NotImplementedError AttributeError StopIteration NotImplemented
""".split())
LIBRARY = {"heapq", "math", "itertools", "collections", "__future__"}
BARRED_NODES = (
    ast.Global, ast.AsyncFunctionDef, ast.AsyncFor, ast.AsyncWith, ast.Await, ast.Div, ast.MatMult, ast.Import,
)
BARRED_NAMES = re.compile(
    r"register|mro|elements|open|input|law|version_info|with_traceback|add_note|format_map|_cold|_outside|_record"
    r"|_written_out|(_wall|_pe_|_dcw_|_enum_|_cm_|_twin_re_|_lay_|_law_|_stub_|_sre).*"
)

# For each listed class its methods and properties; for each one and for each function its parameters.
INTERFACE = {
    "disks": {
        "Disk": {
            "__init__": "(self, cells, *, content=0)",
            "read": "(self, cell)",
            "write": "(self, cell, content)",
            "sync": "(self)",
            "fail": "(self, kept)",
            "contents": property,
            "lasting": property,
            "pending": property,
            "counts": property,
        },
    },
    "rules": {
        "Rules": {
            "__init__": "(self, writing, reading, choice, bound)",
            "writing": property,
            "reading": property,
            "choice": property,
            "bound": property,
        },
        "Recipes": {
            "__init__": "(self, through, back, around, clean)",
            "safe": classmethod,
            "through": property,
            "back": property,
            "around": property,
            "clean": property,
        },
    },
}


class InterfaceTest(unittest.TestCase):
    def test_each_method_stands_in_its_class(self):
        for name, classes in INTERFACE.items():
            module = importlib.import_module(f"keepbefore.{name}")
            for class_name, methods in classes.items():
                listed = getattr(module, class_name)
                self.assertEqual(listed.__module__, module.__name__)
                for method, told in methods.items():
                    with self.subTest(f"{class_name}.{method}"):
                        self.assert_is_as_told(vars(listed)[method], told)

    def assert_is_as_told(self, method, told):
        if isinstance(told, str):
            self.assertEqual(str(inspect.signature(method)), told)
        else:
            self.assertIs(type(method), told)

    def test_the_class_method_has_no_parameters(self):
        rules = importlib.import_module("keepbefore.rules")
        self.assertEqual(str(inspect.signature(rules.Recipes.safe)), "()")


class LanguageTest(unittest.TestCase):
    def each_tree(self):
        for path in FILES:
            with self.subTest(path.name):
                yield path, ast.parse(path.read_text(encoding="utf-8"))

    def test_files(self):
        self.assertTrue((FOLDER / "__init__.py").is_file())
        for path in FILES:
            self.assertRegex(path.name, r"^(__init__|__main__|[a-z][a-z0-9_]*)\.py$")

    def test_sizes_and_characters(self):
        for path in FILES:
            lines = path.read_text(encoding="utf-8").split("\n")
            self.assertLessEqual(len(lines), 400, path.name)
            for number, line in enumerate(lines):
                self.assertRegex(line, r"^[ -~]{0,120}$", f"{path.name}:{number + 1}")

    def test_sizes_of_functions(self):
        for path, tree in self.each_tree():
            for node in ast.walk(tree):
                if isinstance(node, ast.FunctionDef):
                    self.assertLessEqual(node.end_lineno - node.lineno + 1, 40, f"{path.name}: {node.name}")

    def test_imports(self):
        for path, tree in self.each_tree():
            for node in ast.walk(tree):
                if isinstance(node, ast.ImportFrom):
                    self.assertEqual(node.level, 0)
                    if node.module not in LIBRARY:
                        self.assert_names_the_file(node)

    def assert_names_the_file(self, node):
        self.assertRegex(node.module, r"^keepbefore\.[a-z][a-z0-9_]*$")
        source = (FOLDER / f"{node.module.split('.')[1]}.py").read_text(encoding="utf-8")
        for alias in node.names:
            self.assertRegex(source, rf"(?m)^(def |class |){alias.name}( = |\()")

    def test_names_and_nodes(self):
        others = set(dir(builtins)) - ALLOWED_BUILTINS
        for path, tree in self.each_tree():
            for node in ast.walk(tree):
                self.assertNotIsInstance(node, BARRED_NODES, path.name)
                if isinstance(node, ast.Name):
                    self.assertNotIn(node.id, others, path.name)
                if isinstance(node, ast.Constant):
                    self.assertNotIsInstance(node.value, (float, complex), path.name)
                    self.assertNotIn("%", str(node.value), path.name)

    def test_barred_names(self):
        for path, tree in self.each_tree():
            for node in ast.walk(tree):
                for field in ("id", "attr", "arg", "name"):
                    name = getattr(node, field, None)
                    if isinstance(name, str):
                        self.assertIsNone(BARRED_NAMES.fullmatch(name), f"{path.name}: {name}")
