"""The rules of the language that can be read off the package's sources."""

import ast
import builtins
import re
import unittest
from pathlib import Path

FOLDER = Path(__file__).resolve().parent.parent / "urndraws"

STATEMENTS = """Module Expr Assign AugAssign If While For Return Break Continue Pass Raise Try ExceptHandler
FunctionDef ClassDef ImportFrom arguments arg alias Lambda"""
EXPRESSIONS = """Constant Name Attribute Subscript Slice Call List Tuple Dict ListComp comprehension IfExp keyword
BinOp BoolOp UnaryOp Compare And Or Not USub Invert Add Sub Mult FloorDiv Mod Pow BitAnd BitOr BitXor LShift RShift
Eq NotEq Lt LtE Gt GtE In NotIn Is IsNot JoinedStr FormattedValue Load Store"""
NODES = set(STATEMENTS.split()) | set(EXPRESSIONS.split())

OWN_NAMES = set("""len range enumerate zip min max sum abs sorted reversed int str bool list tuple dict set frozenset
isinstance ord repr any all divmod Exception ValueError TypeError KeyError IndexError LookupError ZeroDivisionError
ArithmeticError OverflowError RuntimeError NotImplementedError AttributeError StopIteration""".split())

OUT = re.compile(r"""\b(type|typing|typing_extensions|enum|Enum|IntEnum|StrEnum|Flag|IntFlag|Generic|Protocol|ABC|ABCMeta
|namedtuple|NamedTuple|TypedDict|TYPE_CHECKING|abstractmethod)\b|dataclass|overload|contextmanager""", re.VERBOSE)


METHODS = set("""append clear copy count endswith extend find get index insert isalnum isalpha isdigit islower isspace
isupper items join keys ljust lower lstrip partition pop remove replace reverse rfind rjust rpartition rsplit rstrip
setdefault split splitlines startswith strip update upper values zfill bit_length""".split())


def sources():
    return sorted(path for path in FOLDER.iterdir() if path.name != "__pycache__")


def nodes(path):
    return ast.walk(ast.parse(path.read_text(encoding="ascii")))


class Language(unittest.TestCase):
    def each_node(self, *kinds):
        for path in sources():
            for node in nodes(path):
                if not kinds or isinstance(node, kinds):
                    yield f"{path.name}:{getattr(node, 'lineno', 0)}", node

    def test_files(self):
        self.assertIn("__init__.py", [path.name for path in sources()])
        for path in sources():
            self.assertRegex(path.name, r"^(__init__|[a-z][a-z0-9_]*)\.py$")

    def test_signs_and_size(self):
        for path in sources():
            text = path.read_text(encoding="utf-8")
            self.assertRegex(text, r"\A[ -~\n]*\Z", path.name)
            self.assertIsNone(OUT.search(text), path.name)
            lines = text.split("\n")
            self.assertLessEqual(len(lines), 400, path.name)
            self.assertLessEqual(max(len(line) for line in lines), 120, path.name)
        for where, node in self.each_node(ast.FunctionDef):
            self.assertLessEqual(node.end_lineno - node.lineno + 1, 40, where)

    def test_forms(self):
        for where, node in self.each_node():
            self.assertIn(node.__class__.__name__, NODES, where)
        for where, node in self.each_node(ast.Assign):
            self.assertEqual(len(node.targets), 1, where)
        for where, node in self.each_node(ast.ListComp):
            self.assertEqual(len(node.generators), 1, where)
        for where, node in self.each_node(ast.FunctionDef, ast.ClassDef):
            self.assertEqual(node.decorator_list, [], where)

    def test_imports_are_the_packages_own(self):
        for where, node in self.each_node(ast.ImportFrom):
            self.assertTrue(node.level == 0 and node.module.startswith("urndraws."), where)

    def test_names(self):
        for where, node in self.each_node(ast.Name):
            self.assertFalse(node.id.startswith("_"), where)
            if hasattr(builtins, node.id):
                self.assertIn(node.id, OWN_NAMES, where)
                self.assertIsInstance(node.ctx, ast.Load, where)
        for where, node in self.each_node(ast.arg):
            self.assertFalse(node.arg.startswith("_") or hasattr(builtins, node.arg), where)
        for where, node in self.each_node(ast.Attribute):
            self.assertFalse(node.attr.startswith("_"), where)

    def test_locals_are_not_called_like_imports_and_classes(self):
        for path in sources():
            taken = set()
            for node in nodes(path):
                if isinstance(node, ast.ImportFrom):
                    taken |= {alias.name for alias in node.names}
                if isinstance(node, ast.ClassDef):
                    taken.add(node.name)
            for node in nodes(path):
                if isinstance(node, ast.arg):
                    self.assertNotIn(node.arg, taken, path.name)
                if isinstance(node, ast.Name) and isinstance(node.ctx, ast.Store):
                    self.assertNotIn(node.id, taken, path.name)

    def test_methods_and_values(self):
        methods = set()
        for where, node in self.each_node(ast.ClassDef):
            methods |= {part.name for part in node.body if isinstance(part, ast.FunctionDef)}
        for where, node in self.each_node(ast.Call):
            if isinstance(node.func, ast.Attribute):
                self.assertIn(node.func.attr, METHODS | methods, where)
        for where, node in self.each_node(ast.Attribute):
            if isinstance(node.ctx, ast.Store):
                self.assertNotIn(node.attr, METHODS | methods, where)

    def test_numbers_and_texts(self):
        for where, node in self.each_node(ast.Pow, ast.Constant):
            self.assertNotIsInstance(node, ast.Pow, where)
            if isinstance(node, ast.Constant):
                self.assertIn(node.value.__class__, (int, str, bool, None.__class__), where)
                self.assertNotIn("%", str(node.value), where)


if __name__ == "__main__":
    unittest.main()
