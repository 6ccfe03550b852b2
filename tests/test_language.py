"""The package keeps to the part of Python that it may use (the rules' numbers stand beside)."""

import ast
import builtins
import os
import re
import unittest

ROOT = os.path.dirname(os.path.dirname(os.path.abspath(__file__)))
PACKAGE = os.path.join(ROOT, "quiltwork")

STATEMENTS = (
    ast.Assign, ast.AugAssign, ast.If, ast.While, ast.For, ast.Return, ast.Break, ast.Continue, ast.Pass, ast.Raise,
    ast.Try, ast.Expr, ast.FunctionDef, ast.ClassDef, ast.ImportFrom,
)
EXPRESSIONS = (
    ast.Constant, ast.List, ast.Tuple, ast.Dict, ast.BinOp, ast.UnaryOp, ast.BoolOp, ast.Compare, ast.IfExp, ast.Call,
    ast.Attribute, ast.Subscript, ast.Slice, ast.ListComp, ast.JoinedStr, ast.FormattedValue, ast.Name, ast.Lambda,
)
NAMES = set(
    "len range enumerate zip min max sum abs sorted reversed int str bool list tuple dict isinstance ord repr any all "
    "divmod Exception ValueError KeyError IndexError LookupError ZeroDivisionError ArithmeticError OverflowError "
    "RuntimeError NotImplementedError".split()
)
METHODS = set(
    "append clear copy count endswith extend find get index insert isalnum isalpha isdigit islower isspace isupper "
    "items join keys ljust lower lstrip partition pop remove replace reverse rfind rjust rpartition rsplit rstrip "
    "setdefault split splitlines startswith strip update upper values zfill bit_length".split()
)
NOT_USED = set("register mro elements open input version_info with_traceback add_note format format_map".split())
WORDS = (
    r"\b(type|typing|typing_extensions|enum|Enum|IntEnum|StrEnum|Flag|IntFlag|Generic|Protocol|ABC|ABCMeta|namedtuple|"
    r"NamedTuple|TypedDict|TYPE_CHECKING|abstractmethod)\b|dataclass|overload|contextmanager"
)
PYTHONS_OWN = (str, int, list, dict, set, bytes, tuple)


def sources():
    """The package's files: name, text, tree."""
    given = []
    for name in sorted(os.listdir(PACKAGE)):
        if name == "__pycache__":
            continue
        with open(os.path.join(PACKAGE, name), encoding="utf-8", newline="") as file:
            text = file.read()
        given.append((name, text, ast.parse(text)))
    return given


def nodes(kinds):
    return [(name, node) for name, text, tree in sources() for node in ast.walk(tree) if isinstance(node, kinds)]


def is_docstring(tree, node):
    return isinstance(tree, ast.Module) and tree.body and tree.body[0] is node


class Files(unittest.TestCase):
    def test_names_and_signs(self):
        for name, text, tree in sources():
            self.assertRegex(name, r"^(__init__|[a-z][a-z0-9_]*)\.py$", "L1, L14")
            self.assertNotIn(name[:-3], dir(builtins), "L14")
            self.assertRegex(text, r"\A[ -~\n]*\Z", "L14")
            self.assertIsNone(re.search(WORDS, text), f"L17 {name}")

    def test_sizes(self):
        for name, text, tree in sources():
            self.assertLessEqual(len(text.splitlines()), 400, "L10")
            self.assertLessEqual(max(len(line) for line in text.splitlines()), 120, "L10")
        for name, node in nodes(ast.FunctionDef):
            self.assertLessEqual(node.end_lineno - node.lineno + 1, 40, f"L10 {name} {node.name}")

    def test_nothing_else_lies_there(self):
        for name in os.listdir(PACKAGE):
            self.assertTrue(name.endswith(".py") or name == "__pycache__", f"L1 {name}")


class Tops(unittest.TestCase):
    def test_what_stands_there(self):
        for name, text, tree in sources():
            allowed = (ast.ImportFrom, ast.FunctionDef, ast.ClassDef, ast.Assign)
            for node in tree.body:
                self.assertTrue(isinstance(node, allowed) or is_docstring(tree, node), f"L3 {name} {node.lineno}")

    def test_values_are_plain_and_given_once(self):
        for name, text, tree in sources():
            bound = []
            for node in tree.body:
                if isinstance(node, ast.Assign):
                    self.assertEqual(len(node.targets), 1, "L6")
                    bound.append(node.targets[0].id)
                    plain = (ast.Constant, ast.UnaryOp, ast.USub, ast.List, ast.Tuple, ast.Dict, ast.Name, ast.Load)
                    for part in ast.walk(node.value):
                        self.assertIsInstance(part, plain, f"L3 {name} {node.lineno}")
                elif isinstance(node, (ast.FunctionDef, ast.ClassDef)):
                    bound.append(node.name)
                elif isinstance(node, ast.ImportFrom):
                    bound.extend(alias.name for alias in node.names)
            self.assertEqual(len(bound), len(set(bound)), f"L15 {name}")

    def test_imports(self):
        draws = {}
        defined = {}
        for name, text, tree in sources():
            module = "quiltwork." + name[:-3]
            draws[module] = [node for node in ast.walk(tree) if isinstance(node, ast.ImportFrom)]
            defined[module] = [
                node.targets[0].id if isinstance(node, ast.Assign) else node.name
                for node in tree.body if isinstance(node, (ast.Assign, ast.FunctionDef, ast.ClassDef))
            ]
        for module, found in draws.items():
            for node in found:
                self.assertEqual(node.level, 0, "L2")
                self.assertIn(node.module, defined, "L2")
                for alias in node.names:
                    self.assertIsNone(alias.asname, "L2")
                    self.assertIn(alias.name, defined[node.module], "L16")
        left = {module: {node.module for node in found} for module, found in draws.items()}
        while left:
            free = [module for module in left if not left[module] & set(left)]
            self.assertTrue(free, f"L16: a ring in {sorted(left)}")
            left = {module: left[module] for module in left if module not in free}

    def test_lists_and_dicts_of_a_top_are_only_read(self):
        for name, text, tree in sources():
            kept = [
                node.targets[0].id for node in tree.body
                if isinstance(node, ast.Assign) and isinstance(node.value, (ast.List, ast.Dict))
            ]
            read = [node.value.id for node in ast.walk(tree) if isinstance(node, ast.Subscript)
                    and isinstance(node.value, ast.Name) and isinstance(node.ctx, ast.Load)]
            for one in kept:
                uses = [node for node in ast.walk(tree) if isinstance(node, ast.Name) and node.id == one]
                self.assertEqual(len(uses) - 1, read.count(one), f"L15 {name} {one}")


class Code(unittest.TestCase):
    def test_statements_and_expressions(self):
        for name, text, tree in sources():
            for node in ast.walk(tree):
                place = f"{name} {getattr(node, 'lineno', 0)}"
                if isinstance(node, ast.stmt):
                    self.assertIsInstance(node, STATEMENTS, f"L6 {place}")
                if isinstance(node, ast.expr):
                    self.assertIsInstance(node, EXPRESSIONS, f"L7 {place}")
                if isinstance(node, ast.Expr) and not is_docstring(tree, node):
                    self.assertIsInstance(node.value, ast.Call, f"L6 {place}")
                if isinstance(node, (ast.For, ast.While)):
                    self.assertEqual(node.orelse, [], f"L6 {place}")
                if isinstance(node, ast.Assign):
                    self.assertEqual(len(node.targets), 1, f"L6 {place}")
                    self.assertNotIsInstance(node.targets[0], (ast.Tuple, ast.List), f"L6 {place}")

    def test_values(self):
        for name, node in nodes(ast.Constant):
            self.assertIn(type(node.value), (int, str, bool, type(None)), f"L7 {name}")
        for name, node in nodes(ast.BinOp):
            self.assertNotIsInstance(node.op, (ast.Div, ast.MatMult), f"L7 {name}")
            if isinstance(node.op, ast.Pow):
                self.assertIsInstance(node.right, ast.Constant, f"L27 {name}")
        for name, node in nodes(ast.ListComp):
            self.assertEqual(len(node.generators), 1, f"L7 {name}")
            self.assertLessEqual(len(node.generators[0].ifs), 1, f"L7 {name}")
        for name, node in nodes(ast.Compare):
            for op, right in zip(node.ops, node.comparators):
                if isinstance(op, (ast.Is, ast.IsNot)):
                    self.assertIsInstance(right, ast.Constant, f"L20 {name}")

    def test_functions_and_classes(self):
        for name, node in nodes(ast.FunctionDef):
            place = f"L4 {name} {node.name}"
            self.assertEqual(node.decorator_list, [], place)
            self.assertEqual((node.args.vararg, node.args.kwarg, node.args.kwonlyargs), (None, None, []), place)
            self.assertIsNone(node.returns, "L21")
            self.assertTrue(all(arg.annotation is None for arg in node.args.args), "L21")
        for name, node in nodes(ast.ClassDef):
            self.assertEqual(node.decorator_list + node.keywords, [], f"L5 {name}")
            self.assertTrue(all(isinstance(part, ast.FunctionDef) for part in node.body), f"L5 {name}")

    def test_names(self):
        own = dir(builtins)
        for name, text, tree in sources():
            imported = [alias.name for node in ast.walk(tree) if isinstance(node, ast.ImportFrom) for alias in node.names]
            classes = [node.name for node in tree.body if isinstance(node, ast.ClassDef)]
            for node in ast.walk(tree):
                if isinstance(node, ast.Name) and isinstance(node.ctx, ast.Load) and node.id in own:
                    self.assertIn(node.id, NAMES, f"L8 {name} {node.lineno}")
                bound = None
                if isinstance(node, ast.Name) and isinstance(node.ctx, ast.Store):
                    bound = node.id
                elif isinstance(node, ast.arg):
                    bound = node.arg
                elif isinstance(node, (ast.FunctionDef, ast.ClassDef)) and node.name != "__init__":
                    self.assertRegex(node.name, "^[A-Za-z]", "L12")
                    self.assertNotIn(node.name, NOT_USED, "L17")
                if bound is not None:
                    self.assertRegex(bound, "^[A-Za-z]", f"L12 {name} {node.lineno}")
                    self.assertNotIn(bound, own + imported + classes, f"L15 {name} {node.lineno}")
                    self.assertNotIn(bound, NOT_USED, f"L17 {name} {node.lineno}")

    def test_methods_and_values_of_objects(self):
        methods = {
            part.name for name, node in nodes(ast.ClassDef) for part in node.body if isinstance(part, ast.FunctionDef)
        }
        stored = {node.attr for name, node in nodes(ast.Attribute) if isinstance(node.ctx, ast.Store)}
        self.assertEqual(methods & stored, set(), "L18")
        pythons = {one for kind in PYTHONS_OWN for one in dir(kind)}
        self.assertEqual((methods - {"__init__"}) & pythons, set(), "L26")
        self.assertEqual(stored & pythons, set(), "L26")
        for name, node in nodes(ast.Attribute):
            self.assertIn(node.attr, methods | stored | METHODS, f"L25 {name} {node.lineno}")
            self.assertNotIn(node.attr, NOT_USED, f"L17 {name} {node.lineno}")

    def test_walked_at_once(self):
        walked = ("zip", "enumerate", "reversed", "range")
        for name, text, tree in sources():
            for node in ast.walk(tree):
                if isinstance(node, ast.Assign) and isinstance(node.value, ast.Call):
                    called = node.value.func
                    self.assertFalse(isinstance(called, ast.Name) and called.id in walked, f"L23 {name} {node.lineno}")


if __name__ == "__main__":
    unittest.main()
