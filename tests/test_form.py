"""The form of the package's files: what can be seen of the language's rules in their text."""

import ast
import builtins
import pathlib
import re
import unittest

PACKAGE = pathlib.Path(__file__).resolve().parent.parent / "crystalsums"

OWN_NAMES_OF_PYTHON = set("""
    len range enumerate zip min max sum abs sorted reversed int str bool list tuple dict set frozenset
    isinstance ord repr any all divmod Exception ValueError TypeError KeyError IndexError LookupError
    ZeroDivisionError ArithmeticError OverflowError RuntimeError NotImplementedError AttributeError StopIteration
""".split())

METHODS = set("""
    append clear copy count endswith extend find get index insert isalnum isalpha isdigit islower isspace isupper
    items join keys ljust lower lstrip partition pop remove replace reverse rfind rjust rpartition rsplit rstrip
    setdefault split splitlines startswith strip update upper values zfill bit_length
""".split())

# Imports are left out: the document says that the program imports nothing.
KINDS = (
    ast.Module, ast.FunctionDef, ast.arguments, ast.arg, ast.Lambda, ast.ClassDef,
    ast.Assign, ast.AugAssign, ast.If, ast.While, ast.For, ast.Return, ast.Break, ast.Continue, ast.Pass,
    ast.Raise, ast.Try, ast.ExceptHandler, ast.Expr, ast.Constant, ast.List, ast.Tuple, ast.Dict,
    ast.BinOp, ast.UnaryOp, ast.BoolOp, ast.Compare, ast.IfExp, ast.Call, ast.keyword, ast.Attribute,
    ast.Subscript, ast.Slice, ast.ListComp, ast.comprehension, ast.JoinedStr, ast.FormattedValue, ast.Name,
    ast.expr_context, ast.boolop, ast.operator, ast.unaryop, ast.cmpop,
)

WORDS_NOT_WRITTEN = re.compile(
    r"\b(type|typing|typing_extensions|enum|Enum|IntEnum|StrEnum|Flag|IntFlag|Generic|Protocol|ABC|ABCMeta"
    r"|namedtuple|NamedTuple|TypedDict|TYPE_CHECKING|abstractmethod)\b|dataclass|overload|contextmanager")


def files():
    return sorted(path for path in PACKAGE.rglob("*") if path.is_file() and "__pycache__" not in path.parts)


def nodes(path):
    return ast.walk(ast.parse(path.read_text(encoding="utf-8")))


class Files(unittest.TestCase):
    def test_only_python_files_with_plain_names(self):
        self.assertIn(PACKAGE / "__init__.py", files())
        self.assertIn(PACKAGE / "reflections.py", files())
        for path in files():
            with self.subTest(path=path.name):
                self.assertRegex(path.name, r"\A([a-z][a-z0-9_]*|__init__)\.py\Z")

    def test_signs_and_sizes(self):
        for path in files():
            text = path.read_bytes().decode("utf-8")
            with self.subTest(path=path.name):
                self.assertRegex(text, r"\A[ -~\n]*\Z")
                self.assertLessEqual(len(text.split("\n")), 400)
                self.assertLessEqual(max(len(row) for row in text.split("\n")), 120)
                self.assertIsNone(WORDS_NOT_WRITTEN.search(text))

    def test_functions_have_at_most_40_lines(self):
        for path in files():
            for node in nodes(path):
                if isinstance(node, ast.FunctionDef):
                    with self.subTest(path=path.name, name=node.name):
                        self.assertLessEqual(node.end_lineno - node.lineno + 1, 40)


class Language(unittest.TestCase):
    def test_only_the_listed_statements_and_expressions(self):
        for path in files():
            for node in nodes(path):
                with self.subTest(path=path.name, line=getattr(node, "lineno", 0)):
                    self.assertIsInstance(node, KINDS)
                    self.assertNotIsInstance(node, (ast.Div, ast.MatMult))
                    self.assertFalse(getattr(node, "decorator_list", []))

    def test_constants_are_whole_numbers_texts_truths_or_none(self):
        for path in files():
            for node in nodes(path):
                if isinstance(node, ast.Constant):
                    with self.subTest(path=path.name, line=node.lineno):
                        self.assertIsInstance(node.value, (int, str, bool, type(None)))

    def test_of_pythons_own_names_only_the_listed_ones_and_only_read(self):
        for path in files():
            for node in nodes(path):
                if isinstance(node, ast.Name) and hasattr(builtins, node.id):
                    with self.subTest(path=path.name, line=node.lineno):
                        self.assertIn(node.id, OWN_NAMES_OF_PYTHON)
                        self.assertIsInstance(node.ctx, ast.Load)

    def test_names_that_are_bound_are_plain_and_not_pythons_own(self):
        for path in files():
            for node in nodes(path):
                name = bound_name(node)
                if name is not None:
                    with self.subTest(path=path.name, name=name):
                        self.assertRegex(name, r"\A[A-Za-z][A-Za-z0-9_]*\Z")
                        self.assertFalse(hasattr(builtins, name))

    def test_methods_are_the_listed_ones(self):
        for path in files():
            for node in nodes(path):
                if isinstance(node, ast.Attribute):
                    with self.subTest(path=path.name, line=node.lineno):
                        self.assertIn(node.attr, METHODS)

    def test_one_target_and_plain_parameters(self):
        for path in files():
            for node in nodes(path):
                with self.subTest(path=path.name, line=getattr(node, "lineno", 0)):
                    if isinstance(node, ast.Assign):
                        self.assertEqual(len(node.targets), 1)
                    if isinstance(node, ast.arguments):
                        self.assertFalse(node.posonlyargs or node.kwonlyargs or node.vararg or node.kwarg)
                        # A list or dict as a default would be kept from one call to the next.
                        self.assertTrue(all(isinstance(value, ast.Constant) for value in node.defaults))
                    if isinstance(node, (ast.For, ast.While)):
                        self.assertFalse(node.orelse)

    def test_the_top_binds_each_name_once(self):
        for path in files():
            tree = ast.parse(path.read_text(encoding="utf-8"))
            names = []
            for node in tree.body:
                if isinstance(node, (ast.FunctionDef, ast.ClassDef)):
                    names.append(node.name)
                if isinstance(node, ast.Assign):
                    names.append(node.targets[0].id)
            with self.subTest(path=path.name):
                self.assertEqual(len(names), len(set(names)))


def bound_name(node):
    if isinstance(node, (ast.FunctionDef, ast.ClassDef)):
        return node.name
    if isinstance(node, ast.arg):
        return node.arg
    if isinstance(node, ast.Name) and isinstance(node.ctx, ast.Store):
        return node.id
    return None


if __name__ == "__main__":
    unittest.main()
