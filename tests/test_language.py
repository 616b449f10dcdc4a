"""The package keeps to its part of Python: what of those rules a machine can see."""

import ast
import builtins
import pathlib
import re
import unittest

PACKAGE = pathlib.Path(__file__).resolve().parent.parent / "surebounds"

STATEMENTS = (
    ast.FunctionDef, ast.ClassDef, ast.ImportFrom, ast.Assign, ast.AugAssign, ast.If, ast.While, ast.For, ast.Return,
    ast.Break, ast.Continue, ast.Pass, ast.Raise, ast.Try, ast.Expr)
NOT_USED = (
    ast.Set, ast.SetComp, ast.DictComp, ast.GeneratorExp, ast.NamedExpr, ast.Starred, ast.Await, ast.Yield,
    ast.YieldFrom, ast.Div, ast.MatMult)
BUILT_IN = set(
    "len range enumerate zip min max sum abs sorted reversed int str bool list tuple dict set frozenset isinstance ord "
    "repr any all divmod Exception ValueError TypeError KeyError IndexError LookupError ZeroDivisionError "
    "ArithmeticError OverflowError RuntimeError NotImplementedError AttributeError StopIteration".split())
METHODS = set(
    "append clear copy count endswith extend find get index insert isalnum isalpha isdigit islower isspace isupper "
    "items join keys ljust lower lstrip partition pop remove replace reverse rfind rjust rpartition rsplit rstrip "
    "setdefault split splitlines startswith strip update upper values zfill bit_length".split())
WORDS = re.compile(
    r"\b(type|typing|typing_extensions|enum|Enum|IntEnum|StrEnum|Flag|IntFlag|Generic|Protocol|ABC|ABCMeta|namedtuple|"
    r"NamedTuple|TypedDict|TYPE_CHECKING|abstractmethod)\b|dataclass|overload|contextmanager")
NAME = re.compile(r"[A-Za-z][A-Za-z0-9_]*")
OWN_METHODS = ("__init__",)


def nodes(kinds):
    return [(path, node) for path in FILES for node in ast.walk(TREES[path]) if isinstance(node, kinds)]


FILES = sorted(PACKAGE.glob("*.py"))
TEXTS = {path: path.read_text(encoding="ascii") for path in FILES}
TREES = {path: ast.parse(TEXTS[path]) for path in FILES}


class Language(unittest.TestCase):

    def test_files(self):
        lying = [path.name for path in PACKAGE.iterdir() if path.name != "__pycache__"]
        for name in lying:
            self.assertRegex(name, r"\A(__init__|[a-z][a-z0-9_]*)\.py\Z")
            self.assertTrue(name == "__init__.py" or not hasattr(builtins, name[:-3]), name)
        self.assertIn("bench.py", lying)

    def test_signs_and_sizes(self):
        for path, text in TEXTS.items():
            self.assertRegex(text, r"\A[ -~\n]*\Z", path.name)
            self.assertLessEqual(len(text.splitlines()), 400, path.name)
            self.assertLessEqual(max(len(line) for line in text.splitlines()), 120, path.name)
            self.assertIsNone(WORDS.search(text), path.name)
        for path, node in nodes(ast.FunctionDef):
            self.assertLessEqual(node.end_lineno - node.lineno + 1, 40, node.name)

    def test_imports(self):
        drawn = {path.stem: set() for path in FILES}
        for path, node in nodes((ast.Import, ast.ImportFrom)):
            self.assertIsInstance(node, ast.ImportFrom, path.name)
            self.assertEqual(node.level, 0, path.name)
            self.assertIn(node, TREES[path].body)
            self.assertRegex(node.module, r"\Asurebounds\.[a-z]+\Z")
            source = node.module.split(".")[1]
            drawn[path.stem].add(source)
            bound = {name for part in TREES[PACKAGE / (source + ".py")].body for name in self.bound_by(part)}
            for alias in node.names:
                self.assertIsNone(alias.asname)
                self.assertIn(alias.name, bound)
        while drawn:
            free = [name for name in drawn if not drawn[name] & set(drawn)]
            self.assertTrue(free, "files that draw from one another")
            drawn = {name: drawn[name] for name in drawn if name not in free}

    def bound_by(self, part):
        if isinstance(part, (ast.FunctionDef, ast.ClassDef)):
            return [part.name]
        if isinstance(part, ast.Assign):
            return [target.id for target in part.targets]
        return []

    def test_top(self):
        for path, tree in TREES.items():
            self.assertIsNotNone(ast.get_docstring(tree), path.name)
            for part in tree.body[1:]:
                self.assertIsInstance(part, (ast.ImportFrom, ast.FunctionDef, ast.ClassDef, ast.Assign), path.name)
                if isinstance(part, ast.Assign):
                    ast.literal_eval(part.value)
            names = [name for part in tree.body for name in self.bound_by(part)]
            self.assertEqual(len(names), len(set(names)), path.name)

    def test_statements(self):
        for path, node in nodes(ast.stmt):
            self.assertIsInstance(node, STATEMENTS, (path.name, node.lineno))
            if isinstance(node, ast.Expr) and node is not TREES[path].body[0]:
                self.assertIsInstance(node.value, ast.Call, (path.name, node.lineno))
            if isinstance(node, (ast.For, ast.While)):
                self.assertEqual(node.orelse, [], (path.name, node.lineno))
            if isinstance(node, ast.Assign):
                self.assertEqual(len(node.targets), 1, (path.name, node.lineno))
                self.assertNotIsInstance(node.targets[0], ast.Tuple, (path.name, node.lineno))

    def test_expressions(self):
        self.assertEqual([(path.name, node.lineno) for path, node in nodes(NOT_USED)], [])
        for path, node in nodes(ast.Constant):
            self.assertIn(type(node.value), (int, str, bool, type(None)), (path.name, node.lineno))
        for path, node in nodes(ast.BinOp):
            if isinstance(node.op, ast.Pow):
                self.assertIsInstance(node.right, ast.Constant, (path.name, node.lineno))
        for path, node in nodes(ast.Compare):
            if any(isinstance(op, (ast.Is, ast.IsNot)) for op in node.ops):
                self.assertTrue(all(isinstance(part, ast.Constant) for part in node.comparators), node.lineno)

    def test_defs(self):
        for path, node in nodes((ast.FunctionDef, ast.ClassDef)):
            self.assertEqual(node.decorator_list, [], node.name)
        for path, node in nodes(ast.arguments):
            self.assertFalse(node.vararg or node.kwarg or node.kwonlyargs or node.posonlyargs, path.name)
        for path, node in nodes(ast.ClassDef):
            self.assertIn(node, TREES[path].body)
            self.assertLessEqual(len(node.bases), 1, node.name)
            for part in node.body:
                self.assertIsInstance(part, (ast.FunctionDef, ast.Pass), node.name)

    def test_names(self):
        bound = [(path, node.arg) for path, node in nodes(ast.arg)]
        bound = bound + [(path, node.id) for path, node in nodes(ast.Name) if isinstance(node.ctx, ast.Store)]
        for path, name in bound:
            self.assertIsNotNone(NAME.fullmatch(name), (path.name, name))
            self.assertFalse(hasattr(builtins, name), (path.name, name))
        taken = {(path, part.name) for path, part in nodes(ast.ClassDef)}
        taken = taken | {(path, alias.name) for path, node in nodes(ast.ImportFrom) for alias in node.names}
        self.assertEqual(set(bound) & taken, set())
        for path, node in nodes(ast.FunctionDef):
            self.assertTrue(NAME.fullmatch(node.name) or node.name in OWN_METHODS, node.name)
        for path, node in nodes(ast.Name):
            if hasattr(builtins, node.id):
                self.assertIn(node.id, BUILT_IN, (path.name, node.lineno))

    def test_methods_and_values(self):
        own = {part.name for path, node in nodes(ast.ClassDef) for part in node.body
               if isinstance(part, ast.FunctionDef)}
        stored = {node.attr for path, node in nodes(ast.Attribute) if isinstance(node.ctx, ast.Store)}
        self.assertEqual(own & stored, set())
        native = {name for kind in (str, int, list, tuple, dict, set, bytes) for name in dir(kind)}
        self.assertEqual((own - set(OWN_METHODS)) & native, set())
        self.assertEqual(stored & native, set())
        for path, node in nodes(ast.Attribute):
            self.assertIn(node.attr, own | stored | METHODS, (path.name, node.lineno))


if __name__ == "__main__":
    unittest.main()
