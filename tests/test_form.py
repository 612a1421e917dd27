"""The form of the package's files: what of LANGUAGE.md a small check can see."""

import ast
import builtins
import re
import unittest
from pathlib import Path

PACKAGE = Path(__file__).resolve().parent.parent / "skybars"

NODES = set("""
    Module Import ImportFrom alias FunctionDef ClassDef arguments arg Lambda Return Assign AugAssign For While If Raise
    Try ExceptHandler Expr Pass Break Continue BoolOp And Or BinOp Add Sub Mult FloorDiv Mod Pow LShift RShift BitOr
    BitXor BitAnd UnaryOp Invert Not USub IfExp Dict Set ListComp comprehension Compare Eq NotEq Lt LtE Gt GtE Is IsNot
    In NotIn Call keyword FormattedValue JoinedStr Constant Attribute Subscript Name List Tuple Slice Load Store
""".split())

OWN_NAMES = set("""
    len range enumerate zip min max sum abs sorted reversed int str bool list tuple dict set frozenset isinstance ord
    repr any all divmod Exception ValueError TypeError KeyError IndexError LookupError ZeroDivisionError
    ArithmeticError OverflowError RuntimeError NotImplementedError AttributeError StopIteration
""".split())

METHODS = set("""
    append clear copy count endswith extend find get index insert isalnum isalpha isdigit islower isspace isupper items
    join keys ljust lower lstrip partition pop remove replace reverse rfind rjust rpartition rsplit rstrip setdefault
    split splitlines startswith strip update upper values zfill bit_length
""".split())

WORDS = """
    type typing typing_extensions enum Enum IntEnum StrEnum Flag IntFlag Generic Protocol ABC ABCMeta namedtuple
    NamedTuple TypedDict TYPE_CHECKING abstractmethod
""".split()

DUNDERS = ["__init__", "__eq__", "__repr__", "__str__", "__len__"]


def files():
    return sorted(path for path in PACKAGE.rglob("*") if path.is_file() and "__pycache__" not in path.parts)


def trees():
    return [(path, ast.parse(path.read_text("ascii"))) for path in files()]


def nodes(kind):
    return [(path, node) for path, tree in trees() for node in ast.walk(tree) if isinstance(node, kind)]


class Form(unittest.TestCase):
    def test_files(self):
        self.assertIn(PACKAGE / "__init__.py", files())
        for path in files():
            self.assertRegex(path.name, r"^([a-z][a-z0-9_]*|__init__)\.py$")
            self.assertNotIn(path.stem, dir(builtins))

    def test_signs_and_sizes(self):
        for path in files():
            text = path.read_text("ascii")
            self.assertRegex(text, r"\A[ -~\n]*\Z", path)
            self.assertLessEqual(len(text.splitlines()), 400, path)
            for line in text.splitlines():
                self.assertLessEqual(len(line), 120, path)
        for path, node in nodes(ast.FunctionDef):
            self.assertLessEqual(node.end_lineno - node.lineno + 1, 40, (path, node.name))

    def test_words(self):
        for path in files():
            text = path.read_text("ascii")
            for word in WORDS:
                self.assertIsNone(re.search(rf"\b{word}\b", text), (path, word))
            for word in ["dataclass", "overload", "contextmanager"]:
                self.assertNotIn(word, text, path)

    def test_statements_and_expressions(self):
        for path, node in nodes(ast.AST):
            self.assertIn(type(node).__name__, NODES, (path, getattr(node, "lineno", 0)))
        for path, node in nodes(ast.Constant):
            self.assertIn(type(node.value), [int, str, bool, type(None)], (path, node.lineno))

    def test_loops_assignments_and_definitions(self):
        for path, node in nodes((ast.For, ast.While)):
            self.assertEqual(node.orelse, [], (path, node.lineno))
        for path, node in nodes(ast.Assign):
            self.assertEqual(len(node.targets), 1, (path, node.lineno))
        for path, node in nodes((ast.FunctionDef, ast.ClassDef)):
            self.assertEqual(node.decorator_list, [], (path, node.lineno))
            self.assertFalse(node.name.startswith("_") and node.name not in DUNDERS, (path, node.name))
        for path, node in nodes(ast.ListComp):
            self.assertEqual(len(node.generators), 1, (path, node.lineno))

    def test_imports(self):
        for path, node in nodes((ast.Import, ast.ImportFrom)):
            self.assertIsInstance(node, ast.ImportFrom, (path, node.lineno))
            self.assertEqual(node.level, 0, (path, node.lineno))
            self.assertRegex(node.module, r"^skybars\.[a-z]", path)
            source = ast.parse((PACKAGE / (node.module.split(".")[1] + ".py")).read_text("ascii"))
            defined = [made.name for made in source.body if isinstance(made, (ast.FunctionDef, ast.ClassDef))]
            defined += [made.targets[0].id for made in source.body if isinstance(made, ast.Assign)]
            for drawn in node.names:
                self.assertIn(drawn.name, defined, path)

    def test_names_of_pythons_own(self):
        for path, node in nodes(ast.Name):
            self.assertFalse(node.id.startswith("_"), (path, node.lineno))
            if node.id in dir(builtins):
                self.assertIn(node.id, OWN_NAMES, (path, node.lineno))
                self.assertIsInstance(node.ctx, ast.Load, (path, node.lineno))
        for path, node in nodes(ast.arg):
            self.assertNotIn(node.arg, dir(builtins), (path, node.lineno))

    def test_methods_of_pythons_own(self):
        own = [node.name for path, node in nodes(ast.FunctionDef)]
        for path, node in nodes(ast.Call):
            if isinstance(node.func, ast.Attribute):
                self.assertIn(node.func.attr, METHODS | set(own) | set(["__init__"]), (path, node.lineno))

    def test_no_name_like_a_class_or_an_import(self):
        for path, tree in trees():
            taken = [node.name for node in tree.body if isinstance(node, ast.ClassDef)]
            for node in tree.body:
                if isinstance(node, ast.ImportFrom):
                    taken.extend(drawn.name for drawn in node.names)
            for node in ast.walk(tree):
                if isinstance(node, ast.arg):
                    self.assertNotIn(node.arg, taken, (path, node.lineno))
                if isinstance(node, ast.Name) and isinstance(node.ctx, ast.Store):
                    self.assertNotIn(node.id, taken, (path, node.lineno))

    def test_no_name_bound_twice_at_a_files_top(self):
        for path, tree in trees():
            bound = [node.name for node in tree.body if isinstance(node, (ast.FunctionDef, ast.ClassDef))]
            bound += [node.targets[0].id for node in tree.body if isinstance(node, ast.Assign)]
            for node in tree.body:
                if isinstance(node, ast.ImportFrom):
                    bound.extend(drawn.name for drawn in node.names)
            self.assertEqual(sorted(bound), sorted(set(bound)), path)

    def test_no_two_files_draw_from_one_another(self):
        drawn = {path.stem: [] for path in files()}
        for path, node in nodes(ast.ImportFrom):
            drawn[path.stem].append(node.module.split(".")[1])
        # Files that draw from none that is left are taken away until none is left, or a ring is.
        while drawn:
            free = [stem for stem, sources in drawn.items() if not any(source in drawn for source in sources)]
            self.assertTrue(free, drawn)
            drawn = {stem: sources for stem, sources in drawn.items() if stem not in free}

    def test_no_name_is_a_method_and_a_value(self):
        methods = [made.name for path, node in nodes(ast.ClassDef) for made in node.body
                   if isinstance(made, ast.FunctionDef)]
        for path, node in nodes(ast.Attribute):
            if isinstance(node.ctx, ast.Store):
                self.assertNotIn(node.attr, methods, (path, node.lineno))


if __name__ == "__main__":
    unittest.main()
