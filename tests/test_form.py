"""The form of the package's files: what of ../shared/LANGUAGE.md can be seen in their syntax."""

import ast
import builtins
import pathlib
import re
import unittest

PACKAGE = pathlib.Path(__file__).resolve().parent.parent / "heraldcoats"
BUILT_IN = set("""len range enumerate zip min max sum abs sorted reversed int str bool list tuple dict set frozenset
    isinstance ord repr any all divmod Exception ValueError TypeError KeyError IndexError LookupError
    ZeroDivisionError ArithmeticError OverflowError RuntimeError NotImplementedError AttributeError
    StopIteration""".split())
NODES = tuple(getattr(ast, name) for name in """Module ImportFrom alias FunctionDef ClassDef arguments arg Return Assign
    AugAssign For While If Raise Try ExceptHandler Expr Pass Break Continue BoolOp And Or BinOp Add Sub Mult FloorDiv
    Mod Pow LShift RShift BitOr BitXor BitAnd UnaryOp Invert Not UAdd USub IfExp Dict List Tuple ListComp comprehension
    Compare Eq NotEq Lt LtE Gt GtE Is IsNot In NotIn Call keyword JoinedStr FormattedValue Constant Attribute Subscript
    Name Slice Load Store Lambda""".split())
WORDS = re.compile(r"\b(type|typing|typing_extensions|enum|Enum|IntEnum|StrEnum|Flag|IntFlag|Generic|Protocol|ABC|"
                   r"ABCMeta|namedtuple|NamedTuple|TypedDict|TYPE_CHECKING|abstractmethod)\b|"
                   r"dataclass|overload|contextmanager")


def sources():
    return [(path, path.read_text(encoding="utf-8")) for path in sorted(PACKAGE.glob("*.py"))]


def trees():
    return [(path, ast.parse(text)) for path, text in sources()]


def nodes_of(kind):
    return [(path, node) for path, tree in trees() for node in ast.walk(tree) if isinstance(node, kind)]


class Form(unittest.TestCase):
    def test_nothing_else_lies_in_the_package(self):
        for path in PACKAGE.iterdir():
            if path.name != "__pycache__":
                self.assertRegex(path.name, r"^([a-z][a-z0-9_]*|__init__)\.py$")

    def test_signs_and_sizes(self):
        for path, text in sources():
            rows = text.split("\n")
            self.assertLessEqual(len(rows), 399, path)
            for number, row in enumerate(rows, start=1):
                self.assertRegex(row, r"^[ -~]{0,120}$", f"{path}:{number}")
                self.assertNotRegex(row, WORDS, f"{path}:{number}")
        for path, node in nodes_of(ast.FunctionDef):
            self.assertLessEqual(node.end_lineno - node.lineno + 1, 40, f"{path}:{node.lineno}")

    def test_statements_and_expressions(self):
        for path, node in nodes_of(ast.AST):
            self.assertIsInstance(node, NODES, f"{path}:{getattr(node, 'lineno', '')}")
        for path, node in nodes_of((ast.For, ast.While)):
            self.assertEqual(node.orelse, [], f"{path}:{node.lineno}")
        for path, node in nodes_of(ast.Constant):
            self.assertIn(type(node.value), (int, str, bool, type(None)), f"{path}:{node.lineno}")

    def test_imports(self):
        for path, node in nodes_of(ast.ImportFrom):
            self.assertEqual(node.level, 0)
            self.assertRegex(node.module, r"^heraldcoats\.[a-z]+$", f"{path}:{node.lineno}")
            defined = ast.parse((PACKAGE / (node.module.split(".")[1] + ".py")).read_text(encoding="utf-8")).body
            names = [part.name for part in defined if isinstance(part, (ast.FunctionDef, ast.ClassDef))]
            names += [part.targets[0].id for part in defined if isinstance(part, ast.Assign)]
            for alias in node.names:
                self.assertIn(alias.name, names, f"{path}:{node.lineno}")
                self.assertIsNone(alias.asname)

    def test_names(self):
        given = set(dir(builtins))
        for path, node in nodes_of(ast.Name):
            where = f"{path}:{node.lineno}"
            self.assertFalse(node.id.startswith("_"), where)
            if node.id in given:
                self.assertIn(node.id, BUILT_IN, where)
                self.assertIsInstance(node.ctx, ast.Load, where)
        for path, node in nodes_of(ast.arg):
            self.assertNotIn(node.arg, given, f"{path}:{node.lineno}")

    def test_locals_are_not_called_like_the_files_own_names(self):
        for path, tree in trees():
            top = [part.name for part in tree.body if isinstance(part, (ast.FunctionDef, ast.ClassDef))]
            top += [alias.name for part in tree.body if isinstance(part, ast.ImportFrom) for alias in part.names]
            self.assertEqual(len(top), len(set(top)), path)
            for node in ast.walk(tree):
                if isinstance(node, ast.arg):
                    self.assertNotIn(node.arg, top, f"{path}:{node.lineno}")
                if isinstance(node, ast.Name) and isinstance(node.ctx, ast.Store):
                    self.assertNotIn(node.id, top, f"{path}:{node.lineno}")

    def test_the_interface_is_written_in_its_own_file_alone(self):
        interface = ["check", "at", "part", "count", "words", "read"]
        defined = [(path.name, node.name) for path, tree in trees() for node in tree.body
                   if isinstance(node, (ast.FunctionDef, ast.ClassDef)) and node.name in interface]
        self.assertEqual(defined, [("coats.py", name) for name in interface])

    def test_no_name_is_a_method_and_a_value(self):
        methods = [node.name for path, kind in nodes_of(ast.ClassDef) for node in kind.body
                   if isinstance(node, ast.FunctionDef)]
        values = [node.attr for path, node in nodes_of(ast.Attribute) if isinstance(node.ctx, ast.Store)]
        self.assertEqual([name for name in methods if name in values], [])

    def test_tables_are_only_read_or_copied(self):
        tables = {node.targets[0].id for path, tree in trees() for node in tree.body
                  if isinstance(node, ast.Assign) and isinstance(node.value, (ast.Tuple, ast.List, ast.Dict))}
        for path, tree in trees():
            read = []
            for node in ast.walk(tree):
                if isinstance(node, ast.Subscript):
                    read.append(node.value)
                if isinstance(node, ast.Compare):
                    read.extend(node.comparators)
                if isinstance(node, (ast.For, ast.comprehension)):
                    read.append(node.iter)
                if isinstance(node, ast.Call) and isinstance(node.func, ast.Name) and node.func.id in ("list", "len"):
                    read.extend(node.args)
            for node in ast.walk(tree):
                if isinstance(node, ast.Name) and isinstance(node.ctx, ast.Load) and node.id in tables:
                    self.assertTrue(any([node is other for other in read]), f"{path}:{node.lineno}")
