"""The package's own files keep to a small part of Python: what of that can be seen in the source is looked at here."""

import ast
import builtins
import pathlib
import re
import unittest

PACKAGE = pathlib.Path(__file__).resolve().parent.parent / "linesback"
FILES = sorted(path for path in PACKAGE.rglob("*") if "__pycache__" not in path.parts)

OWN_NAMES = """len range enumerate zip min max sum abs sorted reversed int str bool list tuple dict set frozenset
    isinstance ord repr any all divmod Exception ValueError KeyError IndexError LookupError ZeroDivisionError
    ArithmeticError OverflowError RuntimeError NotImplementedError StopIteration""".split()
OWN_METHODS = """append clear copy count endswith extend find get index insert isalnum isalpha isdigit islower isspace
    isupper items join keys ljust lower lstrip partition pop remove replace reverse rfind rjust rpartition rsplit rstrip
    setdefault split splitlines startswith strip update upper values zfill bit_length""".split()
UNUSED_WORDS = """type typing typing_extensions enum Enum IntEnum StrEnum Flag IntFlag Generic Protocol ABC ABCMeta
    namedtuple NamedTuple TypedDict TYPE_CHECKING abstractmethod""".split()
UNUSED_NAMES = "register mro elements open input version_info with_traceback add_note format format_map".split()
NODES = """Module Expr Constant ImportFrom alias FunctionDef arguments arg ClassDef Assign AugAssign If While For Return
    Break Continue Pass Raise Try ExceptHandler Call List Tuple Dict BinOp UnaryOp BoolOp Compare IfExp Attribute
    Subscript Slice ListComp comprehension JoinedStr FormattedValue Lambda Name Load Store keyword Add Sub Mult FloorDiv
    Mod Pow BitAnd BitOr BitXor LShift RShift Invert USub Not And Or Eq NotEq Lt LtE Gt GtE Is IsNot In NotIn""".split()


def own_methods_of(trees):
    return {node.name for tree in trees for node in ast.walk(tree) if isinstance(node, ast.FunctionDef)}


class FormTest(unittest.TestCase):
    def setUp(self):
        self.sources = {path.name: path.read_text(encoding="utf-8") for path in FILES}
        self.trees = {name: ast.parse(source) for name, source in self.sources.items()}

    def nodes(self, *kinds):
        return [(name, node) for name, tree in self.trees.items() for node in ast.walk(tree) if isinstance(node, kinds)]

    def test_files(self):
        self.assertIn("__init__.py", self.sources)
        for path in FILES:
            self.assertTrue(path.is_file() and path.parent == PACKAGE, path)
            self.assertRegex(path.name, r"^([a-z][a-z0-9_]*|__init__)\.py$")

    def test_sizes_and_signs(self):
        for name, source in self.sources.items():
            rows = source.split("\n")
            self.assertLessEqual(len(rows), 401, name)
            self.assertLessEqual(max(len(row) for row in rows), 120, name)
            self.assertRegex(source, r"\A[ -~\n]*\Z", name)
        for name, node in self.nodes(ast.FunctionDef):
            self.assertLessEqual(node.end_lineno - node.lineno + 1, 40, (name, node.name))

    def test_words(self):
        for name, source in self.sources.items():
            words = re.findall(r"\w+", source)
            self.assertEqual([word for word in words if word in UNUSED_WORDS], [], name)

    def test_statements_and_expressions(self):
        for name, node in self.nodes(ast.AST):
            self.assertIn(node.__class__.__name__, NODES, (name, getattr(node, "lineno", 0)))
        for name, node in self.nodes(ast.Constant):
            self.assertIn(node.value.__class__, (int, str, bool, None.__class__), (name, node.lineno))
        for name, node in self.nodes(ast.Assign):
            self.assertEqual(len(node.targets), 1, (name, node.lineno))
            self.assertNotIsInstance(node.targets[0], ast.Tuple, (name, node.lineno))
        for name, node in self.nodes(ast.FunctionDef, ast.ClassDef):
            self.assertEqual(node.decorator_list, [], (name, node.lineno))
        for name, node in self.nodes(ast.For, ast.While):
            self.assertEqual(node.orelse, [], (name, node.lineno))

    def test_imports(self):
        for name, node in self.nodes(ast.ImportFrom):
            self.assertEqual(node.level, 0, (name, node.lineno))
            self.assertRegex(node.module, r"^linesback\.[a-z]+$")
            defined = self.trees[node.module.split(".")[1] + ".py"].body
            names = {each.name for each in defined if isinstance(each, (ast.FunctionDef, ast.ClassDef))}
            names |= {each.targets[0].id for each in defined if isinstance(each, ast.Assign)}
            for alias in node.names:
                self.assertIn(alias.name, names, (name, node.lineno))
                self.assertIsNone(alias.asname)

    def test_names(self):
        for name, node in self.nodes(ast.Name):
            self.assertNotIn(node.id, UNUSED_NAMES, (name, node.lineno))
            self.assertFalse(node.id.startswith("_"), (name, node.lineno))
            if hasattr(builtins, node.id):
                self.assertIn(node.id, OWN_NAMES, (name, node.lineno))
                self.assertIsInstance(node.ctx, ast.Load, (name, node.lineno))
        for name, node in self.nodes(ast.arg):
            self.assertFalse(hasattr(builtins, node.arg), (name, node.lineno))

    def test_no_local_is_called_like_a_class_or_an_import(self):
        for name, tree in self.trees.items():
            taken = {alias.name for node in ast.walk(tree) if isinstance(node, ast.ImportFrom) for alias in node.names}
            taken |= {node.name for node in ast.walk(tree) if isinstance(node, ast.ClassDef)}
            given = {node.arg for node in ast.walk(tree) if isinstance(node, ast.arg)}
            given |= {node.id for node in ast.walk(tree) if isinstance(node, ast.Name) and isinstance(node.ctx, ast.Store)}
            self.assertEqual(taken & given, set(), name)

    def test_methods(self):
        own = own_methods_of(self.trees.values())
        for name, node in self.nodes(ast.Call):
            if isinstance(node.func, ast.Attribute):
                self.assertIn(node.func.attr, own | set(OWN_METHODS), (name, node.lineno))

    def test_no_name_is_a_method_and_a_value(self):
        values = {node.attr for name, node in self.nodes(ast.Attribute) if isinstance(node.ctx, ast.Store)}
        methods = {each.name for name, node in self.nodes(ast.ClassDef) for each in node.body}
        self.assertEqual(values & methods, set())
        for kind in (str, int, list, dict, set, bytes):
            self.assertEqual([each for each in values | methods if each != "__init__" and hasattr(kind, each)], [])


if __name__ == "__main__":
    unittest.main()
