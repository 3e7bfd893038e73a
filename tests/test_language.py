"""What can be told from the code alone: the interface, and the plain rules of the language subset."""

import ast
import builtins
import importlib
import inspect
import pathlib
import re
import unittest

FOLDER = pathlib.Path(__file__).resolve().parent.parent / "keepbefore"
FILES = sorted(path for path in FOLDER.rglob("*") if path.is_file() and "__pycache__" not in path.parts)

ALLOWED_BUILTINS = set("""
    len range enumerate zip min max sum abs sorted reversed int str bool bytes list tuple dict set frozenset
    isinstance ord repr any all divmod pow getattr hasattr setattr iter next map super
    property staticmethod classmethod object float
    Exception ValueError TypeError KeyError IndexError LookupError ZeroDivisionError ArithmeticError
    OverflowError RuntimeError NotImplementedError AttributeError StopIteration NotImplemented
""".split())
LIBRARY = {"heapq", "math", "itertools", "collections", "__future__"}
BARRED_NODES = (
    ast.Global, ast.AsyncFunctionDef, ast.AsyncFor, ast.AsyncWith, ast.Await, ast.Div, ast.MatMult, ast.Import,
)
BARRED_NAMES = re.compile(
    r"register|mro|elements|open|input|law|version_info|with_traceback|add_note|format_map|_cold|_outside|_record"
    r"|_written_out|(_wall|_pe_|_dcw_|_enum_|_cm_|_twin_re_|_lay_|_law_|_stub_|_sre).*"
)

# For each listed class its methods and properties, for each one of these and for each function its parameters.
INTERFACE = {
    "bench": {
        "Bench": {
            "__init__": "(self, rules, recipes)",
            "set_part": "(self, part, value)",
            "set_recipe": "(self, word, recipe)",
            "lean": "(self, word)",
            "save": "(self, name)",
            "restore": "(self, name)",
            "undo": "(self)",
            "redo": "(self)",
            "apply": "(self, operations)",
            "rules": property,
            "recipes": property,
            "operations": property,
            "names": property,
            "replay": classmethod,
        },
    },
    "codes": {
        "image": "(pair)",
        "load": "(numbers)",
    },
    "comparison": {
        "first_parting": "(blocks, slots, rules, other, *, most=3)",
    },
    "costs": {
        "cost": "(counts, prices)",
        "run": "(blocks, slots, rules, requests)",
        "cheapest": "(blocks, slots, bound, requests, prices)",
    },
    "disks": {
        "Disk": {
            "__init__": "(self, cells, *, content=0)",
            "read": "(self, cell)",
            "write": "(self, cell, content)",
            "sync": "(self)",
            "fail": "(self, kept)",
            "contents": property,
            "lasting": property,
            "pending": property,
            "counts": property,
        },
    },
    "logs": {
        "first_error": "(blocks, log)",
        "possible_values": "(blocks, log)",
        "Recorder": {
            "__init__": "(self, pair)",
            "read": "(self, block)",
            "write": "(self, block, value)",
            "fail_at": "(self, steps)",
            "cut": "(self)",
            "restart": "(self, slow_kept, fast_kept)",
            "lose_fast": "(self)",
            "lose_slow": "(self)",
            "resume": "(self)",
            "log": property,
        },
    },
    "notation": {
        "format_setup": "(blocks, slots, rules, recipes, requests)",
        "parse_setup": "(text)",
    },
    "observers": {
        "RulesObserver": {
            "__init__": "(self, blocks, slots, bound)",
            "see": "(self, requests, counts)",
            "see_hits": "(self, requests, *are_hits)",
            "best_requests": "(self, lists)",
            "possible_counts": "(self, requests)",
            "candidates": property,
            "history": property,
            "from_history": classmethod,
        },
    },
    "pairs": {
        "Pair": {
            "__init__": "(self, blocks, slots, rules, *, recipes=None)",
            "read": "(self, block)",
            "write": "(self, block, value)",
            "forget": "(self, block)",
            "clean_up": "(self, count)",
            "restart": "(self, slow_kept, fast_kept)",
            "lose_slow": "(self)",
            "lose_fast": "(self)",
            "settle": "(self)",
            "set_rules": "(self, rules)",
            "fail_at": "(self, steps)",
            "cut": "(self)",
            "give_fast": "(self, slots)",
            "block_values": property,
            "dirty": property,
            "known": property,
            "hits": property,
            "requests": property,
            "rules": property,
            "counts": property,
            "pending": property,
            "is_on": property,
        },
    },
    "plans": {
        "fewest_misses": "(slots, blocks)",
        "judge_plan": "(slots, blocks, plan)",
    },
    "rounds": {
        "Repeated": {
            "__init__": "(self, blocks, slots, rules, requests)",
            "counts_after": "(self, rounds)",
            "hits_after": "(self, rounds)",
            "slot_writes": "(self, slot, rounds)",
            "is_hit": "(self, number)",
            "worn_after": "(self, limit)",
            "settled": property,
        },
    },
    "rules": {
        "Rules": {
            "__init__": "(self, writing, reading, choice, bound)",
            "writing": property,
            "reading": property,
            "choice": property,
            "bound": property,
        },
        "Recipes": {
            "__init__": "(self, through, back, around, clean)",
            "safe": classmethod,
            "through": property,
            "back": property,
            "around": property,
            "clean": property,
        },
    },
    "stories": {
        "tell": "(recipes, story)",
        "is_bad": "(recipes, story)",
        "first_story": "(recipes, most)",
        "lean": "(recipes, word, most)",
        "outcomes": "(blocks, slots, rules, recipes, requests)",
    },
}


class InterfaceTest(unittest.TestCase):
    def test_each_name_is_defined_in_its_file(self):
        for name, things in INTERFACE.items():
            tree = ast.parse((FOLDER / f"{name}.py").read_text(encoding="utf-8"))
            defined = {node.name for node in tree.body if isinstance(node, (ast.FunctionDef, ast.ClassDef))}
            self.assertLessEqual(set(things), defined, name)

    def test_functions(self):
        for name, things in INTERFACE.items():
            module = importlib.import_module(f"keepbefore.{name}")
            for thing, told in things.items():
                if isinstance(told, str):
                    self.assert_is_as_told(getattr(module, thing), told)

    def test_each_method_stands_in_its_class(self):
        for name, things in INTERFACE.items():
            module = importlib.import_module(f"keepbefore.{name}")
            for class_name, methods in things.items():
                if isinstance(methods, dict):
                    for method, told in methods.items():
                        with self.subTest(f"{class_name}.{method}"):
                            self.assert_is_as_told(vars(getattr(module, class_name))[method], told)

    def assert_is_as_told(self, method, told):
        if isinstance(told, str):
            self.assertEqual(str(inspect.signature(method)), told)
        else:
            self.assertIs(type(method), told)

    def test_the_parameters_of_class_methods(self):
        methods = {
            "rules.Recipes.safe": "()",
            "observers.RulesObserver.from_history": "(blocks, slots, bound, history)",
            "bench.Bench.replay": "(rules, recipes, operations)",
        }
        for name, told in methods.items():
            module, class_name, method = name.split(".")
            thing = getattr(importlib.import_module(f"keepbefore.{module}"), class_name)
            self.assertEqual(str(inspect.signature(getattr(thing, method))), told)


def is_plain(node, functions):
    """Whether this is a plain value: no name but a function's, no index, no call, no attribute, no operator."""
    if isinstance(node, ast.Constant):
        return node.value is None or isinstance(node.value, (int, str, bytes))
    if isinstance(node, ast.UnaryOp):
        return isinstance(node.op, ast.USub) and isinstance(node.operand, ast.Constant)
    if isinstance(node, (ast.List, ast.Tuple)):
        return all(is_plain(part, functions) for part in node.elts)
    if isinstance(node, ast.Dict):
        return all(is_plain(part, functions) for part in [*node.keys, *node.values])
    return isinstance(node, ast.Name) and node.id in functions


def faults_at_the_top(tree):
    """The rows of a module that are no docstring, import, function, class or a plain value for a new name."""
    faults, functions, names = [], [], []
    for place, node in enumerate(tree.body):
        if isinstance(node, (ast.FunctionDef, ast.ClassDef)):
            functions += [node.name] * isinstance(node, ast.FunctionDef)
            names.append(node.name)
        elif isinstance(node, ast.ImportFrom):
            names += [alias.asname or alias.name for alias in node.names]
        elif isinstance(node, ast.Expr) and place == 0 and isinstance(node.value, ast.Constant):
            continue
        elif isinstance(node, ast.Assign) and len(node.targets) == 1 and isinstance(node.targets[0], ast.Name):
            names.append(node.targets[0].id)
            if not is_plain(node.value, functions):
                faults.append(node.lineno)
        else:
            faults.append(node.lineno)
        if len(set(names)) < len(names):
            faults.append(node.lineno)
            names = list(set(names))
    return faults


class TopTest(unittest.TestCase):
    def test_each_name_is_assigned_a_plain_value_once(self):
        for path in FILES:
            tree = ast.parse(path.read_text(encoding="utf-8"))
            self.assertEqual(faults_at_the_top(tree), [], path.name)

    def test_what_is_found(self):
        plain = ["1", "-1", "'a'", "b'a'", "True", "None", "(1, (2, 'x'))", "[1, None]", "{'a': 1, 2: (3,)}", "(f, f)"]
        other = ["W[0]", "W", "f()", "len('a')", "'a'.upper()", "W.a", "(1, W[0])", "[f()]", "{'a': W[0]}", "{W: 1}",
                 "{1, 2}", "g", "[x for x in W]", "1 + 1", "1.5", "f'a'", "lambda: 1", "1 if f else 2", "(*W, 1)", "{**W}"]
        for texts, faults in ((plain, []), (other, [6])):
            for text in texts:
                code = f'"""Words."""\nfrom a import b\nW = (1, 2)\ndef f():\n    pass\nX = {text}\ndef g():\n    pass\n'
                with self.subTest(text):
                    self.assertEqual(faults_at_the_top(ast.parse(code)), faults)

    def test_other_rows_are_found(self):
        for row in ("A, B = 0, 1", "A = B = 0", "A = 1\nA = 2", "A += 1", "f()", "if A:\n    B = 1", "A.b = 1", "import a",
                    "from a import b\nb = 1", "def f():\n    pass\nf = 1", "for A in (1, 2):\n    pass", "A: int = 1", "del A"):
            with self.subTest(row):
                self.assertEqual(len(faults_at_the_top(ast.parse(row))), 1)


class LanguageTest(unittest.TestCase):
    def each_tree(self):
        for path in FILES:
            with self.subTest(path.name):
                yield path, ast.parse(path.read_text(encoding="utf-8"))

    def test_files(self):
        self.assertTrue((FOLDER / "__init__.py").is_file())
        for path in FILES:
            self.assertRegex(path.name, r"^(__init__|__main__|[a-z][a-z0-9_]*)\.py$")

    def test_sizes_and_characters(self):
        for path in FILES:
            lines = path.read_text(encoding="utf-8").split("\n")
            self.assertLessEqual(len(lines), 400, path.name)
            for number, line in enumerate(lines):
                self.assertRegex(line, r"^[ -~]{0,120}$", f"{path.name}:{number + 1}")

    def test_sizes_of_functions(self):
        for path, tree in self.each_tree():
            for node in ast.walk(tree):
                if isinstance(node, ast.FunctionDef):
                    self.assertLessEqual(node.end_lineno - node.lineno + 1, 40, f"{path.name}: {node.name}")

    def test_imports(self):
        for path, tree in self.each_tree():
            for node in ast.walk(tree):
                if isinstance(node, ast.ImportFrom):
                    self.assertEqual(node.level, 0)
                    if node.module not in LIBRARY:
                        self.assert_names_the_file(node)

    def assert_names_the_file(self, node):
        self.assertRegex(node.module, r"^keepbefore\.[a-z][a-z0-9_]*$")
        source = (FOLDER / f"{node.module.split('.')[1]}.py").read_text(encoding="utf-8")
        for alias in node.names:
            defined = re.search(rf"(?m)^(def |class |){alias.name}( = |\(|:)", source)
            self.assertIsNotNone(defined, f"{alias.name} in {node.module}")

    def test_names_and_nodes(self):
        others = set(dir(builtins)) - ALLOWED_BUILTINS
        for path, tree in self.each_tree():
            for node in ast.walk(tree):
                self.assertNotIsInstance(node, BARRED_NODES, path.name)
                if isinstance(node, ast.Name):
                    self.assertNotIn(node.id, others, path.name)
                if isinstance(node, ast.Constant):
                    self.assertNotIsInstance(node.value, (float, complex), path.name)
                    self.assertNotIn("%", str(node.value), path.name)

    def test_barred_names(self):
        for path, tree in self.each_tree():
            for node in ast.walk(tree):
                for field in ("id", "attr", "arg", "name"):
                    name = getattr(node, field, None)
                    if isinstance(name, str):
                        self.assertIsNone(BARRED_NAMES.fullmatch(name), f"{path.name}: {name}")

    def test_lists_instead_of_generators(self):
        # Rules and recipes have __eq__, so any, all, min, max, sum and sorted take lists.
        for path, tree in self.each_tree():
            for node in ast.walk(tree):
                self.assertNotIsInstance(node, (ast.GeneratorExp, ast.Yield, ast.YieldFrom), path.name)

    def test_is_stands_with_none_true_and_false(self):
        for path, tree in self.each_tree():
            for node in ast.walk(tree):
                if isinstance(node, ast.Compare) and any(isinstance(sign, (ast.Is, ast.IsNot)) for sign in node.ops):
                    self.assertIsInstance(node.comparators[0], ast.Constant, f"{path.name}:{node.lineno}")

    def test_no_files_import_from_each_other(self):
        imported = {}
        for path, tree in self.each_tree():
            imported[path.stem] = {node.module.split(".")[-1] for node in tree.body if isinstance(node, ast.ImportFrom)}
        while imported:
            free = [name for name, others in imported.items() if not others & set(imported)]
            self.assertTrue(free, imported)
            for name in free:
                del imported[name]

    def test_no_variable_has_the_name_of_a_class_an_import_or_a_builtin(self):
        for path, tree in self.each_tree():
            taken = set(dir(builtins))
            for node in tree.body:
                if isinstance(node, ast.ImportFrom):
                    taken |= {alias.asname or alias.name for alias in node.names}
                if isinstance(node, ast.ClassDef):
                    taken.add(node.name)
            for node in ast.walk(tree):
                if isinstance(node, ast.Name) and isinstance(node.ctx, ast.Store):
                    self.assertNotIn(node.id, taken, f"{path.name}:{node.lineno}")
                if isinstance(node, ast.arg):
                    self.assertNotIn(node.arg, taken, f"{path.name}:{node.lineno}")

    def test_no_property_has_the_name_of_a_method(self):
        names = {"property": set(), "method": set()}
        for _, tree in self.each_tree():
            for node in ast.walk(tree):
                if isinstance(node, ast.ClassDef):
                    for method in [part for part in node.body if isinstance(part, ast.FunctionDef)]:
                        marks = [ast.unparse(mark) for mark in method.decorator_list]
                        names["property" if "property" in marks else "method"].add(method.name)
        self.assertEqual(names["property"] & names["method"], set())

    def test_attributes_are_assigned_through_a_local_name(self):
        for path, tree in self.each_tree():
            for node in ast.walk(tree):
                if isinstance(node, ast.Attribute) and isinstance(node.ctx, ast.Store):
                    self.assertIsInstance(node.value, ast.Name, f"{path.name}:{node.lineno}")
