"""The form of the package's files. It asks for less than the rules allow (no set, no lambda, no annotation)."""

import ast
import builtins
import re
import unittest
from pathlib import Path

ROOT = Path(__file__).resolve().parent.parent
PACKAGE = ROOT / "homemoves"
FILES = sorted(path for path in PACKAGE.rglob("*") if "__pycache__" not in path.parts)

STATEMENTS = (ast.FunctionDef, ast.ClassDef, ast.Return, ast.Assign, ast.AugAssign, ast.For, ast.While, ast.If,
              ast.Raise, ast.Try, ast.ImportFrom, ast.Expr, ast.Pass, ast.Break, ast.Continue)
EXPRESSIONS = (ast.BoolOp, ast.BinOp, ast.UnaryOp, ast.IfExp, ast.Dict, ast.ListComp, ast.Compare, ast.Call,
               ast.Constant, ast.Attribute, ast.Subscript, ast.Name, ast.List, ast.Tuple, ast.Slice)
OPERATORS = (ast.Add, ast.Sub, ast.Mult, ast.FloorDiv, ast.Mod, ast.BitAnd, ast.BitOr, ast.BitXor, ast.LShift,
             ast.RShift, ast.Invert, ast.USub, ast.Not, ast.And, ast.Or)
OWN_NAMES = ("len range enumerate zip min max sum abs sorted reversed int str bool list tuple dict isinstance ord repr "
             "any all divmod Exception ValueError KeyError").split()
METHODS = ("append clear copy count endswith extend find get index insert isalnum isalpha isdigit items join keys pop "
           "remove replace reverse setdefault split strip update values zfill bit_length").split()
WALKED = {"zip", "enumerate", "reversed", "range"}
NOT_NAMES = ("register mro elements open input version_info with_traceback add_note attrgetter breakpoint builtins "
             "compile copyright credits delattr dir eval exec exit gc getattr globals hasattr help id importlib "
             "license locals methodcaller os quit setattr super vars sys format format_map").split()
NOT_WORDS = re.compile(r"\b(type|typing|typing_extensions|enum|Enum|IntEnum|StrEnum|Flag|IntFlag|Generic|Protocol|ABC|"
                       r"ABCMeta|namedtuple|NamedTuple|TypedDict|TYPE_CHECKING|abstractmethod)\b|"
                       r"dataclass|overload|contextmanager")
NOT_FILES = ("test", "tests", "testing", "site", "conftest", "sitecustomize", "usercustomize")


def bound_names(tree):
    """Each name that a file gives to something, but for what it imports."""
    for node in ast.walk(tree):
        if isinstance(node, (ast.FunctionDef, ast.ClassDef)):
            yield node.name
        elif isinstance(node, ast.arg):
            yield node.arg
        elif isinstance(node, ast.Name) and isinstance(node.ctx, ast.Store):
            yield node.id
        elif isinstance(node, ast.Attribute) and isinstance(node.ctx, ast.Store):
            yield node.attr
        elif isinstance(node, ast.ExceptHandler) and node.name:
            yield node.name


def locals_of(tree):
    for node in ast.walk(tree):
        if isinstance(node, ast.FunctionDef):
            for inner in ast.walk(node):
                if isinstance(inner, ast.arg):
                    yield inner.arg
                if isinstance(inner, ast.Name) and isinstance(inner.ctx, ast.Store):
                    yield inner.id


class LanguageTest(unittest.TestCase):
    def setUp(self):
        self.trees = {path: ast.parse(path.read_text(encoding="ascii")) for path in FILES if path.is_file()}

    def test_files_and_signs(self):
        self.assertIn(PACKAGE / "__init__.py", self.trees)
        for path in FILES:
            self.assertEqual(path.suffix, ".py", path)
            self.assertRegex(path.stem, r"^(__init__|[a-z][a-z0-9_]*)$")
            self.assertNotIn(path.stem, NOT_FILES + tuple(dir(builtins)))
            self.assertFalse(path.stem.startswith("test_") or NOT_WORDS.search(path.stem), path)
            text = path.read_bytes().decode("ascii")
            self.assertEqual([sign for sign in text if not (" " <= sign <= "~" or sign == "\n")], [], path)
            self.assertIsNone(NOT_WORDS.search(text), path)
            self.assertLessEqual(len(text.splitlines()), 399, path)
            self.assertLessEqual(max(len(line) for line in text.splitlines()), 120, path)

    def test_the_top_of_each_file(self):
        for path, tree in self.trees.items():
            self.assertIsInstance(tree.body[0], ast.Expr, path)
            self.assertIsInstance(tree.body[0].value.value, str, path)
            allowed = [ast.ImportFrom, ast.Assign, ast.ClassDef, ast.FunctionDef]
            seen_more = False
            for node in tree.body[1:]:
                self.assertIn(node.__class__, allowed, (path, node.lineno))
                seen_more = seen_more or not isinstance(node, ast.ImportFrom)
                self.assertFalse(seen_more and isinstance(node, ast.ImportFrom), path)
            names = [node.name for node in tree.body if isinstance(node, (ast.ClassDef, ast.FunctionDef))]
            names += [node.targets[0].id for node in tree.body if isinstance(node, ast.Assign)]
            names += [alias.name for node in tree.body if isinstance(node, ast.ImportFrom) for alias in node.names]
            self.assertEqual(len(names), len(set(names)), path)

    def test_imports(self):
        drawn = {}
        for path, tree in self.trees.items():
            drawn[path.stem] = set()
            for node in [node for node in ast.walk(tree) if isinstance(node, ast.ImportFrom)]:
                self.assertRegex(node.module, r"^homemoves\.[a-z_]+$", path)
                source = self.trees[PACKAGE / (node.module.split(".")[1] + ".py")]
                defined = {part.name for part in source.body if isinstance(part, (ast.ClassDef, ast.FunctionDef))}
                defined |= {part.targets[0].id for part in source.body if isinstance(part, ast.Assign)}
                for alias in node.names:
                    self.assertIn(alias.name, defined, path)
                    self.assertIsNone(alias.asname, path)
                    used = [part for part in ast.walk(tree) if isinstance(part, ast.Name) and part.id == alias.name]
                    self.assertTrue(used, (path, alias.name))
                drawn[path.stem].add(node.module.split(".")[1])
        self.assertEqual(drawn["__init__"], set())
        while drawn:
            free = [stem for stem, needs in drawn.items() if not needs & set(drawn)]
            self.assertTrue(free, drawn)
            for stem in free:
                drawn.pop(stem)

    def test_the_way_in_stands_in_its_own_file(self):
        holders = [path.stem for path, tree in self.trees.items() for node in tree.body
                   if getattr(node, "name", "") == "answers"]
        self.assertEqual(holders, ["keeper"])

    def test_functions_and_classes(self):
        for path, tree in self.trees.items():
            for node in ast.walk(tree):
                where = (path, getattr(node, "lineno", 0))
                if isinstance(node, (ast.FunctionDef, ast.ClassDef)):
                    self.assertEqual(node.decorator_list, [], where)
                if isinstance(node, ast.FunctionDef):
                    self.assertLessEqual(node.end_lineno - node.lineno + 1, 40, where)
                    self.assertFalse(node.args.vararg or node.args.kwarg or node.args.kwonlyargs, where)
                    self.assertFalse(node.args.posonlyargs or node.args.defaults or node.returns, where)
                    self.assertFalse([part for part in node.args.args if part.annotation], where)
                if isinstance(node, ast.ClassDef):
                    self.assertLessEqual(len(node.bases), 1, where)
                    self.assertEqual({part.__class__ for part in node.body}, {ast.FunctionDef}, where)
                    self.assertEqual(len(node.body), len({part.name for part in node.body}), where)

    def test_statements(self):
        for path, tree in self.trees.items():
            for node in ast.walk(tree):
                where = (path, getattr(node, "lineno", 0))
                if isinstance(node, ast.stmt):
                    self.assertIsInstance(node, STATEMENTS, where)
                if isinstance(node, ast.Expr) and node is not tree.body[0]:
                    self.assertIsInstance(node.value, ast.Call, where)
                if isinstance(node, ast.Assign):
                    self.assertEqual(len(node.targets), 1, where)
                    self.assertNotIsInstance(node.targets[0], (ast.Tuple, ast.List), where)
                if isinstance(node, (ast.For, ast.While)):
                    self.assertEqual(node.orelse, [], where)
                if isinstance(node, ast.Try):
                    self.assertEqual(node.finalbody, [], where)
                    self.assertTrue(all(isinstance(part.type, ast.Name) for part in node.handlers), where)
                if isinstance(node, ast.Raise):
                    self.assertIsInstance(node.exc, ast.Call, where)

    def test_expressions(self):
        for path, tree in self.trees.items():
            for node in ast.walk(tree):
                where = (path, getattr(node, "lineno", 0))
                if isinstance(node, ast.expr):
                    self.assertIsInstance(node, EXPRESSIONS, where)
                if isinstance(node, (ast.operator, ast.unaryop, ast.boolop)):
                    self.assertIsInstance(node, OPERATORS, (path, node))
                if isinstance(node, ast.Constant):
                    self.assertIsInstance(node.value, (int, str, bool, None.__class__), where)
                if isinstance(node, ast.ListComp):
                    self.assertEqual(len(node.generators), 1, where)
                    self.assertLessEqual(len(node.generators[0].ifs), 1, where)
                if isinstance(node, ast.Compare) and isinstance(node.ops[0], (ast.Is, ast.IsNot)):
                    self.assertIsInstance(node.comparators[0], ast.Constant, where)

    def test_names(self):
        for path, tree in self.trees.items():
            taken = {node.name for node in tree.body if isinstance(node, ast.ClassDef)}
            taken |= {alias.name for node in tree.body if isinstance(node, ast.ImportFrom) for alias in node.names}
            for name in bound_names(tree):
                self.assertRegex(name, r"^([A-Za-z][A-Za-z0-9_]*|__(init|eq|repr|str|len)__)$", path)
                self.assertNotIn(name, NOT_NAMES, path)
            for name in locals_of(tree):
                self.assertNotIn(name, set(dir(builtins)) | taken, path)
            known = set(bound_names(tree)) | taken | set(OWN_NAMES)
            for node in ast.walk(tree):
                if isinstance(node, ast.Name):
                    self.assertIn(node.id, known, (path, node.lineno))

    def test_methods_and_values(self):
        methods, values = set(), set()
        for tree in self.trees.values():
            for node in ast.walk(tree):
                if isinstance(node, ast.ClassDef):
                    methods |= {part.name for part in node.body}
                if isinstance(node, ast.Attribute) and isinstance(node.ctx, ast.Store):
                    values.add(node.attr)
        self.assertEqual(methods & values, set())
        python_has = {name for kind in (int, str, list, dict, set, bytes, tuple) for name in dir(kind)} - {"__init__"}
        self.assertEqual((methods | values) & python_has, set())
        for path, tree in self.trees.items():
            called = {node.func for node in ast.walk(tree) if isinstance(node, ast.Call)}
            for node in [node for node in ast.walk(tree) if isinstance(node, ast.Attribute)]:
                allowed = methods | set(METHODS) if node in called else values
                self.assertIn(node.attr, allowed, (path, node.lineno))

    def test_walked_on_the_spot(self):
        for path, tree in self.trees.items():
            walked = {node.iter for node in ast.walk(tree) if isinstance(node, (ast.For, ast.comprehension))}
            for node in ast.walk(tree):
                if isinstance(node, ast.Call) and isinstance(node.func, ast.Name) and node.func.id in WALKED:
                    self.assertIn(node, walked, (path, node.lineno))


if __name__ == "__main__":
    unittest.main()
