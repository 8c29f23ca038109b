"""Holds the package to those rules of LANGUAGE.md that a walk over its files can see."""

import ast
import re
import unittest
from pathlib import Path

PACKAGE = Path(__file__).resolve().parent.parent / "triesagaindesk"

ALLOWED_NODES = set("""
Module Expr Constant ImportFrom alias FunctionDef arguments arg ClassDef Assign AugAssign If While For Return Break
Continue Pass Raise Try ExceptHandler Call Name Load Store Attribute Subscript Slice List Tuple Dict BinOp UnaryOp
BoolOp Compare IfExp ListComp comprehension JoinedStr FormattedValue Lambda keyword Add Sub Mult FloorDiv Mod Pow
BitAnd BitOr BitXor LShift RShift Invert USub UAdd Not And Or Eq NotEq Lt LtE Gt GtE Is IsNot In NotIn
""".split())
OWN_NAMES = set("""
len range enumerate zip min max sum abs sorted reversed int str bool list tuple dict set frozenset isinstance ord repr
any all divmod Exception ValueError TypeError KeyError IndexError LookupError ZeroDivisionError ArithmeticError
OverflowError RuntimeError NotImplementedError AttributeError StopIteration
""".split())
OWN_METHODS = set("""
append clear copy count endswith extend find get index insert isalnum isalpha isdigit islower isspace isupper items
join keys ljust lower lstrip partition pop remove replace reverse rfind rjust rpartition rsplit rstrip setdefault
split splitlines startswith strip update upper values zfill bit_length
""".split())
BANNED_WORDS = re.compile(r"\b(type|typing|typing_extensions|enum|Enum|IntEnum|StrEnum|Flag|IntFlag|Generic|Protocol"
                          r"|ABC|ABCMeta|namedtuple|NamedTuple|TypedDict|TYPE_CHECKING|abstractmethod)\b"
                          r"|dataclass|overload|contextmanager")
DUNDERS = {"__init__", "__eq__", "__repr__", "__str__", "__len__"}


def files():
    return sorted(PACKAGE.glob("*.py"))


def trees():
    return [(path, ast.parse(path.read_text())) for path in files()]


def nodes(kind):
    return [(path, node) for path, tree in trees() for node in ast.walk(tree) if isinstance(node, kind)]


def bound_names(tree):
    names = {node.arg for node in ast.walk(tree) if isinstance(node, ast.arg)}
    names |= {node.id for node in ast.walk(tree) if isinstance(node, ast.Name) and isinstance(node.ctx, ast.Store)}
    names |= {node.name for node in ast.walk(tree) if isinstance(node, (ast.FunctionDef, ast.ClassDef))}
    return names | {node.name for node in ast.walk(tree) if isinstance(node, ast.alias)}


class FilesTest(unittest.TestCase):
    def test_nothing_else_lies_in_the_package(self):
        beside = [path.name for path in PACKAGE.iterdir() if path.suffix != ".py" and path.name != "__pycache__"]
        self.assertEqual(beside, [])
        self.assertIn("__init__.py", [path.name for path in files()])

    def test_signs_and_sizes(self):
        for path in files():
            text = path.read_text()
            self.assertRegex(text, r"\A[ -~\n]*\Z", path)
            self.assertLessEqual(len(text.splitlines()), 400, path)
            self.assertLessEqual(max(len(row) for row in text.splitlines()), 120, path)
            self.assertIsNone(BANNED_WORDS.search(text), path)

    def test_functions_have_at_most_40_lines(self):
        for path, node in nodes(ast.FunctionDef):
            self.assertLessEqual(node.end_lineno - node.lineno + 1, 40, (path, node.name))


class FormsTest(unittest.TestCase):
    def test_only_listed_forms(self):
        for path, node in nodes(ast.AST):
            self.assertIn(node.__class__.__name__, ALLOWED_NODES, (path, getattr(node, "lineno", None)))

    def test_plain_values(self):
        for path, node in nodes(ast.Constant):
            self.assertIn(node.value.__class__, (int, str, bool, None.__class__), (path, node.lineno))

    def test_plain_functions_and_classes(self):
        for path, node in nodes(ast.FunctionDef):
            where = (path, node.name)
            self.assertEqual(node.decorator_list, [], where)
            self.assertEqual((node.args.vararg, node.args.kwarg, node.args.kwonlyargs), (None, None, []), where)
        for path, node in nodes(ast.ClassDef):
            self.assertEqual(node.decorator_list, [], (path, node.name))
            self.assertLessEqual(len(node.bases), 1, (path, node.name))

    def test_one_target_and_no_else_behind_a_loop(self):
        for path, node in nodes(ast.Assign):
            self.assertEqual(len(node.targets), 1, (path, node.lineno))
            self.assertNotIsInstance(node.targets[0], (ast.Tuple, ast.List), (path, node.lineno))
        for path, node in nodes((ast.For, ast.While)):
            self.assertEqual(node.orelse, [], (path, node.lineno))

    def test_one_for_and_at_most_one_if_in_a_comprehension(self):
        for path, node in nodes(ast.ListComp):
            self.assertEqual(len(node.generators), 1, (path, node.lineno))
            self.assertLessEqual(len(node.generators[0].ifs), 1, (path, node.lineno))

    def test_written_exponents(self):
        for path, node in nodes(ast.BinOp):
            if isinstance(node.op, ast.Pow):
                self.assertIsInstance(node.right, ast.Constant, (path, node.lineno))


class NamesTest(unittest.TestCase):
    def test_imports_draw_from_the_package_alone(self):
        defined = {path.stem: bound_names(tree) for path, tree in trees()}
        for path, node in nodes(ast.ImportFrom):
            package, _, module = node.module.partition(".")
            self.assertEqual((node.level, package), (0, PACKAGE.name), path)
            for drawn in node.names:
                self.assertIn(drawn.name, defined[module], path)
        init = ast.parse((PACKAGE / "__init__.py").read_text())
        self.assertEqual([node for node in init.body if isinstance(node, ast.ImportFrom)], [])

    def test_names_are_plain_and_known(self):
        builtin_names = set(dir(__builtins__)) if not isinstance(__builtins__, dict) else set(__builtins__)
        for path, tree in trees():
            bound = bound_names(tree)
            for name in bound - DUNDERS:
                self.assertRegex(name, r"\A[A-Za-z][A-Za-z0-9_]*\Z", path)
            self.assertEqual(bound & builtin_names, set(), path)
            read = {node.id for node in ast.walk(tree) if isinstance(node, ast.Name)}
            self.assertEqual(read - bound - OWN_NAMES, set(), path)

    def test_methods_are_listed_or_own(self):
        own = {node.name for _, node in nodes(ast.FunctionDef)}
        for path, node in nodes(ast.Call):
            if isinstance(node.func, ast.Attribute):
                self.assertIn(node.func.attr, own | OWN_METHODS, (path, node.lineno))

    def test_no_name_is_a_method_and_a_value(self):
        methods = set()
        for _, node in nodes(ast.ClassDef):
            methods |= {part.name for part in node.body if isinstance(part, ast.FunctionDef)}
        stored = {node.attr for _, node in nodes(ast.Attribute) if isinstance(node.ctx, ast.Store)}
        self.assertEqual(methods & stored, set())
        taken = {name for value in ("", 0, [], {}, set(), frozenset(), b"", ()) for name in dir(value)}
        self.assertEqual((methods - DUNDERS | stored) & taken, set())


if __name__ == "__main__":
    unittest.main()
