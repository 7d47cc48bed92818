"""The rules for the package's own files, as far as they can be seen in its text."""

import ast
import builtins
import re
import unittest
from pathlib import Path

PACKAGE = Path(__file__).resolve().parent.parent / "sortedcopies"
FILES = sorted(PACKAGE.rglob("*.py"))

STATEMENTS = (ast.Assign, ast.AugAssign, ast.If, ast.While, ast.For, ast.Return, ast.Break, ast.Continue, ast.Pass,
              ast.Raise, ast.Try, ast.Expr, ast.FunctionDef, ast.ClassDef, ast.ImportFrom)
EXPRESSIONS = (ast.Constant, ast.List, ast.Tuple, ast.Dict, ast.Set, ast.BinOp, ast.UnaryOp, ast.BoolOp, ast.Compare,
               ast.IfExp, ast.Call, ast.Attribute, ast.Subscript, ast.Slice, ast.ListComp, ast.Lambda, ast.Name,
               ast.JoinedStr, ast.FormattedValue)
BUILT_IN = """len range enumerate zip min max sum abs sorted reversed int str bool list tuple dict set frozenset
    isinstance ord repr any all divmod Exception ValueError KeyError IndexError LookupError ZeroDivisionError
    ArithmeticError OverflowError RuntimeError NotImplementedError AttributeError StopIteration""".split()
METHODS = """append clear copy count endswith extend find get index insert isalnum isalpha isdigit islower isspace
    isupper items join keys ljust lower lstrip partition pop remove replace reverse rfind rjust rpartition rsplit
    rstrip setdefault split splitlines startswith strip update upper values zfill bit_length""".split()
WORDS = """type typing typing_extensions enum Enum IntEnum StrEnum Flag IntFlag Generic Protocol ABC ABCMeta
    namedtuple NamedTuple TypedDict TYPE_CHECKING abstractmethod""".split()
UNUSED = "register mro elements open input version_info with_traceback add_note format format_map".split()


def nodes(kind):
    return [(path.name, node) for path in FILES for node in ast.walk(ast.parse(path.read_text())) if
            isinstance(node, kind)]


def bound_names():
    """All names that the package's files bind."""
    names = [node.name for path, node in nodes((ast.FunctionDef, ast.ClassDef))]
    names += [node.arg for path, node in nodes(ast.arg)]
    names += [node.id for path, node in nodes(ast.Name) if isinstance(node.ctx, ast.Store)]
    return names


class LanguageTest(unittest.TestCase):
    def test_files(self):
        self.assertIn(PACKAGE / "__init__.py", FILES)
        for path in PACKAGE.rglob("*"):
            if "__pycache__" not in path.parts:
                self.assertTrue(path.is_dir() or re.fullmatch(r"[a-z0-9_]+\.py", path.name), path)

    def test_signs_and_sizes(self):
        for path in FILES:
            text = path.read_bytes()
            self.assertEqual([sign for sign in text if sign != 10 and not 32 <= sign <= 126], [], path)
            rows = text.decode().split("\n")
            self.assertLessEqual(len(rows), 401, path)
            self.assertLessEqual(max(len(row) for row in rows), 120, path)
        for path, node in nodes(ast.FunctionDef):
            self.assertLessEqual(node.end_lineno - node.lineno + 1, 40, node.name)

    def test_words(self):
        for path in FILES:
            text = path.read_text()
            found = [word for word in re.findall(r"\w+", text) if word in WORDS]
            self.assertEqual(found, [], path)
            self.assertIsNone(re.search("dataclass|overload|contextmanager", text), path)

    def test_statements_and_expressions(self):
        for path, node in nodes(ast.stmt):
            self.assertIsInstance(node, STATEMENTS, (path, node.lineno))
        for path, node in nodes(ast.expr):
            self.assertIsInstance(node, EXPRESSIONS, (path, node.lineno))
        for path, node in nodes(ast.Constant):
            self.assertIn(type(node.value), (int, str, bool, type(None)), (path, node.lineno))
        for path, node in nodes((ast.Div, ast.MatMult)):
            self.fail(path)

    def test_forms(self):
        for path, node in nodes((ast.For, ast.While)):
            self.assertEqual(node.orelse, [], (path, node.lineno))
        for path, node in nodes(ast.Assign):
            self.assertEqual(len(node.targets), 1, (path, node.lineno))
        for path, node in nodes(ast.ListComp):
            self.assertEqual(len(node.generators), 1, (path, node.lineno))
            self.assertLessEqual(len(node.generators[0].ifs), 1, (path, node.lineno))
        for path, node in nodes((ast.FunctionDef, ast.ClassDef)):
            self.assertEqual(node.decorator_list, [], node.name)
        for path, node in nodes(ast.arguments):
            self.assertEqual((node.vararg, node.kwarg, node.kwonlyargs, node.posonlyargs), (None, None, [], []), path)

    def test_imports_nothing(self):
        self.assertEqual(nodes((ast.Import, ast.ImportFrom)), [])

    def test_names(self):
        bound = bound_names()
        for name in bound:
            if name != "__init__":
                self.assertRegex(name, r"\A[A-Za-z][A-Za-z0-9_]*\Z")
                self.assertFalse(hasattr(builtins, name), name)
            self.assertNotIn(name, UNUSED)
        for path, node in nodes(ast.Name):
            self.assertIn(node.id, bound + BUILT_IN + ["self"], (path, node.lineno))

    def test_attributes(self):
        own = [node.name for path, node in nodes(ast.FunctionDef)]
        kept = [node.attr for path, node in nodes(ast.Attribute) if isinstance(node.ctx, ast.Store)]
        self.assertEqual(set(own) & set(kept), set())
        for path, node in nodes(ast.Attribute):
            self.assertNotIn(node.attr, UNUSED)
            self.assertIn(node.attr, own + kept + METHODS, (path, node.lineno))

    def test_file_tops(self):
        for path in FILES:
            tree = ast.parse(path.read_text())
            named = []
            for node in tree.body[1:]:
                self.assertIsInstance(node, (ast.Assign, ast.FunctionDef, ast.ClassDef), (path, node.lineno))
                if isinstance(node, ast.Assign):
                    ast.literal_eval(node.value)
                    named.append(node.targets[0].id)
                else:
                    named.append(node.name)
            self.assertEqual(len(named), len(set(named)), path)
            self.assertIsNotNone(ast.get_docstring(tree), path)
