"""The package's files keep to the part of Python that the program is written in (those rules a walk can see)."""

import ast
import builtins
import io
import pathlib
import re
import tokenize
import unittest

PACKAGE = pathlib.Path(__file__).resolve().parent.parent / "jsonstates"

STATEMENTS = (
    ast.FunctionDef, ast.ClassDef, ast.Assign, ast.AugAssign, ast.If, ast.While, ast.For, ast.Return, ast.Break,
    ast.Continue, ast.Pass, ast.Raise, ast.Try, ast.ImportFrom, ast.Expr,
)
EXPRESSIONS = (
    ast.Constant, ast.List, ast.Tuple, ast.Dict, ast.BinOp, ast.UnaryOp, ast.BoolOp, ast.Compare, ast.IfExp, ast.Call,
    ast.Attribute, ast.Subscript, ast.Slice, ast.ListComp, ast.Name, ast.JoinedStr, ast.FormattedValue, ast.Lambda,
)
BUILT_IN = set(
    "len range enumerate zip min max sum abs sorted reversed int str bool list tuple dict set frozenset isinstance "
    "ord repr any all divmod Exception ValueError TypeError KeyError IndexError LookupError ZeroDivisionError "
    "ArithmeticError OverflowError RuntimeError NotImplementedError AttributeError StopIteration".split()
)
METHODS = set(
    "append clear copy count endswith extend find get index insert isalnum isalpha isdigit islower isspace isupper "
    "items join keys ljust lower lstrip partition pop remove replace reverse rfind rjust rpartition rsplit rstrip "
    "setdefault split splitlines startswith strip update upper values zfill bit_length".split()
)
WORDS_OUT = (
    r"\b(type|typing|typing_extensions|enum|Enum|IntEnum|StrEnum|Flag|IntFlag|Generic|Protocol|ABC|ABCMeta|namedtuple|"
    r"NamedTuple|TypedDict|TYPE_CHECKING|abstractmethod)\b|dataclass|overload|contextmanager"
)
NAMES_OUT = set(
    "register mro elements open input version_info with_traceback add_note format format_map sys os super getattr "
    "setattr delattr hasattr globals locals vars dir eval exec compile id help exit quit print".split()
)


def sources():
    return [(path, path.read_text(encoding="utf-8")) for path in sorted(PACKAGE.rglob("*.py"))]


def nodes(kind):
    return [(path, node) for path, text in sources() for node in ast.walk(ast.parse(text)) if isinstance(node, kind)]


def own_names():
    """Every name that the package binds: defs, classes, parameters, and what is assigned."""
    bound = {node.name for path, node in nodes((ast.FunctionDef, ast.ClassDef))}
    bound |= {node.arg for path, node in nodes(ast.arg)}
    return bound | {node.id for path, node in nodes(ast.Name) if isinstance(node.ctx, ast.Store)}


class Files(unittest.TestCase):
    def test_only_python_files_lie_in_the_package(self):
        for path in PACKAGE.rglob("*"):
            if "__pycache__" not in path.parts:
                self.assertRegex(path.name, r"^[a-z0-9_]+\.py$")
        self.assertTrue((PACKAGE / "__init__.py").is_file())

    def test_signs_and_sizes(self):
        for path, text in sources():
            self.assertRegex(text, r"\A[ -~\n]*\Z", path)
            self.assertLessEqual(len(text.splitlines()), 400, path)
            self.assertLessEqual(max(map(len, text.splitlines()), default=0), 120, path)
            self.assertIsNone(re.search(WORDS_OUT, text), path)

    def test_functions_are_small(self):
        for path, node in nodes(ast.FunctionDef):
            self.assertLessEqual(node.end_lineno - node.lineno + 1, 40, (path, node.name))

    def test_escapes_in_texts(self):
        for path, text in sources():
            for token in tokenize.generate_tokens(io.StringIO(text).readline):
                if token.type == tokenize.STRING:
                    self.assertRegex(token.string, r"""\A(?:[^\\%]|\\[nt\\"'])*\Z""", path)


class Forms(unittest.TestCase):
    def test_statements_and_expressions(self):
        for path, node in nodes((ast.stmt, ast.expr)):
            self.assertIsInstance(node, STATEMENTS + EXPRESSIONS, (path, node.lineno))

    def test_no_floats_and_no_bytes(self):
        for path, node in nodes(ast.Constant):
            self.assertIn(node.value.__class__, (int, str, bool, None.__class__), (path, node.lineno))
        self.assertEqual(nodes((ast.Div, ast.MatMult, ast.Starred)), [])

    def test_one_target_and_no_else_behind_a_loop(self):
        for path, node in nodes(ast.Assign):
            self.assertEqual(len(node.targets), 1, (path, node.lineno))
            self.assertNotIsInstance(node.targets[0], (ast.Tuple, ast.List), (path, node.lineno))
        for path, node in nodes((ast.For, ast.While)):
            self.assertEqual(node.orelse, [], (path, node.lineno))

    def test_plain_functions_and_classes(self):
        for path, node in nodes((ast.FunctionDef, ast.ClassDef)):
            self.assertEqual(node.decorator_list, [], (path, node.name))
        for path, node in nodes(ast.arguments):
            self.assertEqual((node.vararg, node.kwarg, node.kwonlyargs, node.posonlyargs), (None, None, [], []), path)


class Names(unittest.TestCase):
    def test_nothing_is_imported(self):
        self.assertEqual(nodes((ast.Import, ast.ImportFrom)), [])

    def test_own_names_are_plain(self):
        for name in own_names() - {"__init__"}:
            self.assertRegex(name, r"^[A-Za-z][A-Za-z0-9_]*$")
            self.assertNotIn(name, NAMES_OUT)
            self.assertFalse(hasattr(builtins, name), name)

    def test_other_names_are_those_that_are_allowed(self):
        allowed = own_names() | BUILT_IN
        for path, node in nodes(ast.Name):
            self.assertIn(node.id, allowed, (path, node.lineno))

    def test_methods_and_values(self):
        methods = {node.name for path, node in nodes(ast.FunctionDef)}
        values = {node.attr for path, node in nodes(ast.Attribute) if isinstance(node.ctx, ast.Store)}
        self.assertEqual(methods & values, set())
        for path, node in nodes(ast.Attribute):
            self.assertIn(node.attr, METHODS | methods | values, (path, node.lineno))
            self.assertNotIn(node.attr, NAMES_OUT, (path, node.lineno))

    def test_each_name_is_bound_once_at_the_top(self):
        for path, text in sources():
            bound = []
            for node in ast.parse(text).body:
                if isinstance(node, ast.Assign):
                    bound.append(node.targets[0].id)
                elif isinstance(node, (ast.FunctionDef, ast.ClassDef)):
                    bound.append(node.name)
                else:
                    self.assertIsInstance(getattr(node, "value", None), ast.Constant, (path, node.lineno))
            self.assertEqual(len(bound), len(set(bound)), path)


if __name__ == "__main__":
    unittest.main()
