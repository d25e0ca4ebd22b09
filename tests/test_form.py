"""The form of the package's files: the part of Python that they keep to."""

import ast
import builtins
import pathlib
import re
import unittest

PACKAGE = pathlib.Path(__file__).resolve().parent.parent / "layerdial"

ALLOWED_NODES = set("""
    Module Expr Constant ImportFrom alias FunctionDef ClassDef arguments arg Assign Name Attribute Subscript Slice
    Load Store If For While Return Break Continue Pass Raise Call keyword List Tuple Dict ListComp comprehension
    BinOp Add Sub Mult FloorDiv Mod UnaryOp USub Not BoolOp And Or IfExp AugAssign
    Compare Eq NotEq Lt LtE Gt GtE Is IsNot In NotIn
""".split())
ALLOWED_BUILTINS = set("""
    len range enumerate zip min max sum abs sorted reversed int str bool list tuple dict set frozenset isinstance
    ord repr any all divmod
""".split())
ALLOWED_METHODS = set("""
    append clear copy count endswith extend find get index insert isalnum isalpha isdigit islower isspace isupper
    items join keys ljust lower lstrip partition pop remove replace reverse rfind rjust rpartition rsplit rstrip
    setdefault split splitlines startswith strip update upper values zfill bit_length
""".split())
BARRED_VALUES = set("""
    items keys values pop update append clear extend insert remove reverse setdefault sort args encode format
""".split())
BARRED_WORDS = re.compile(
    r"\b(type|typing|typing_extensions|enum|Enum|IntEnum|StrEnum|Flag|IntFlag|Generic|Protocol|ABC|ABCMeta|namedtuple"
    r"|NamedTuple|TypedDict|TYPE_CHECKING|abstractmethod|register|mro|elements|open|input|version_info)\b"
    r"|dataclass|overload|contextmanager")


def sources():
    return sorted(path for path in PACKAGE.rglob("*") if path.is_file() and "__pycache__" not in path.parts)


def nodes_of(kind):
    for path in sources():
        for node in ast.walk(ast.parse(path.read_text(encoding="utf-8"))):
            if isinstance(node, kind):
                yield path.name, node


def names_in(node):
    found = [getattr(node, part, None) for part in ("id", "arg", "attr", "name", "asname")]
    return [name for name in found if isinstance(name, str)]


class Form(unittest.TestCase):
    def test_files(self):
        self.assertEqual([str(path.relative_to(PACKAGE)) for path in sources()],
                         ["__init__.py", "day.py", "deciding.py", "dial.py"])

    def test_signs_lines_and_sizes(self):
        for path in sources():
            text = path.read_bytes().decode("utf-8")
            self.assertRegex(text, r"\A[ -~\n]*\Z", path.name)
            self.assertLessEqual(text.count("\n"), 400, path.name)
            self.assertLessEqual(max(len(line) for line in text.split("\n")), 120, path.name)
        for file, node in nodes_of(ast.FunctionDef):
            self.assertLessEqual(node.end_lineno - node.lineno + 1, 40, (file, node.name))

    def test_words(self):
        for path in sources():
            self.assertIsNone(BARRED_WORDS.search(path.read_text()), path.name)

    def test_nodes(self):
        for file, node in nodes_of(ast.AST):
            self.assertIn(node.__class__.__name__, ALLOWED_NODES, (file, getattr(node, "lineno", 0)))
        for file, node in nodes_of(ast.Constant):
            self.assertIn(node.value.__class__, (int, str, bool, None.__class__), (file, node.lineno))
        for file, node in nodes_of(ast.Assign):
            self.assertEqual(len(node.targets), 1, (file, node.lineno))
        for file, node in nodes_of((ast.For, ast.While)):
            self.assertEqual(node.orelse, [], (file, node.lineno))
        for file, node in nodes_of((ast.FunctionDef, ast.ClassDef)):
            self.assertEqual(node.decorator_list, [], (file, node.lineno))
        for file, node in nodes_of(ast.ListComp):
            self.assertEqual(len(node.generators), 1, (file, node.lineno))

    def test_imports(self):
        modules = ["layerdial." + path.stem for path in sources()]
        for file, node in nodes_of(ast.ImportFrom):
            self.assertEqual(node.level, 0, file)
            self.assertIn(node.module, modules, file)
            self.assertNotIn("*", [alias.name for alias in node.names], file)
        init = ast.parse((PACKAGE / "__init__.py").read_text())
        self.assertEqual([node.__class__ for node in init.body], [ast.Expr])

    def test_names(self):
        for file, node in nodes_of(ast.AST):
            for name in names_in(node):
                self.assertRegex(name, r"\A([A-Za-z][A-Za-z0-9_]*|__init__)\Z", file)
        for file, node in nodes_of(ast.Name):
            if node.id in vars(builtins):
                self.assertIn(node.id, ALLOWED_BUILTINS, (file, node.lineno))
                self.assertIsInstance(node.ctx, ast.Load, (file, node.lineno))
        for file, node in nodes_of((ast.arg, ast.FunctionDef, ast.ClassDef)):
            name = node.arg if isinstance(node, ast.arg) else node.name
            self.assertNotIn(name, vars(builtins), file)

    def test_methods_and_values(self):
        own = {node.name for file, node in nodes_of(ast.FunctionDef)}
        stored = {node.attr for file, node in nodes_of(ast.Attribute) if isinstance(node.ctx, ast.Store)}
        self.assertEqual(own & stored, set())
        self.assertEqual(stored & BARRED_VALUES, set())
        called = {node.func.attr for file, node in nodes_of(ast.Call) if isinstance(node.func, ast.Attribute)}
        self.assertEqual(called - own - ALLOWED_METHODS, set())
        read = {node.attr for file, node in nodes_of(ast.Attribute) if isinstance(node.ctx, ast.Load)}
        self.assertEqual(read - called - stored, set())


if __name__ == "__main__":
    unittest.main()
