"""The form of the package's own files, as far as it can be read from them row by row."""

import ast
import builtins
import pathlib
import re
import unittest

PACKAGE = pathlib.Path(__file__).resolve().parent.parent / "stonebreathdesk"
FILES = sorted(PACKAGE.rglob("*.py"))

STATEMENTS = (
    ast.Assign, ast.AugAssign, ast.If, ast.While, ast.For, ast.Return, ast.Break, ast.Continue, ast.Pass,
    ast.Raise, ast.Try, ast.Expr, ast.FunctionDef, ast.ClassDef, ast.ImportFrom,
)
NEVER = (
    ast.Starred, ast.SetComp, ast.DictComp, ast.GeneratorExp, ast.NamedExpr, ast.Div, ast.Set, ast.Yield, ast.Await,
)
OWN_NAMES = """
    len range enumerate zip min max sum abs sorted reversed int str bool list tuple dict set frozenset isinstance ord
    repr any all divmod Exception ValueError TypeError KeyError IndexError LookupError ZeroDivisionError
    ArithmeticError OverflowError RuntimeError NotImplementedError StopIteration
""".split()
METHODS_OF_PYTHON = """
    append clear copy count endswith extend find get index insert isalnum isalpha isdigit islower isspace isupper items
    join keys ljust lower lstrip partition pop remove replace reverse rfind rjust rpartition rsplit rstrip setdefault
    split splitlines startswith strip update upper values zfill bit_length
""".split()
WORDS = """
    type typing typing_extensions enum Enum IntEnum StrEnum Flag IntFlag Generic Protocol ABC ABCMeta namedtuple
    NamedTuple TypedDict TYPE_CHECKING abstractmethod
""".split()
NAMES_NOT_USED = """
    register mro elements open input version_info with_traceback add_note attrgetter breakpoint builtins compile
    copyright credits delattr dir eval exec exit gc getattr globals hasattr help id importlib license locals
    methodcaller os quit setattr super type vars sys
""".split()


def trees():
    return [(file.name, ast.parse(file.read_text(encoding="ascii"))) for file in FILES]


def nodes(kind):
    return [(name, node) for name, tree in trees() for node in ast.walk(tree) if isinstance(node, kind)]


def bound_names():
    found = []
    for name, node in nodes((ast.FunctionDef, ast.ClassDef, ast.arg, ast.Name)):
        if isinstance(node, ast.arg):
            found.append((name, node.arg))
        elif isinstance(node, ast.Name):
            if isinstance(node.ctx, ast.Store):
                found.append((name, node.id))
        else:
            found.append((name, node.name))
    return found


class Form(unittest.TestCase):
    def test_only_plain_files_lie_in_the_package(self):
        for path in PACKAGE.rglob("*"):
            if "__pycache__" not in path.parts:
                self.assertRegex(path.name, r"^[a-z][a-z0-9_]*\.py$|^__init__\.py$", path)

    def test_size_and_signs(self):
        for file in FILES:
            text = file.read_text(encoding="ascii")
            self.assertRegex(text, r"\A[ -~\n]*\Z", file.name)
            self.assertLessEqual(len(text.splitlines()), 400, file.name)
            for row in text.splitlines():
                self.assertLessEqual(len(row), 120, (file.name, row))

    def test_words_that_stand_nowhere(self):
        for file in FILES:
            text = file.read_text(encoding="ascii")
            found = set(re.findall(r"\w+", text)) & set(WORDS)
            self.assertEqual(found, set(), file.name)
            self.assertIsNone(re.search("dataclass|overload|contextmanager", text), file.name)

    def test_functions_are_short_and_plain(self):
        for name, node in nodes(ast.FunctionDef):
            self.assertLessEqual(node.end_lineno - node.lineno + 1, 40, (name, node.name))
            self.assertEqual(node.decorator_list, [], (name, node.name))
            plain = node.args
            self.assertFalse(plain.vararg or plain.kwarg or plain.kwonlyargs or plain.posonlyargs, (name, node.name))

    def test_imports_are_the_packages_own(self):
        for name, node in nodes((ast.Import, ast.ImportFrom)):
            self.assertIsInstance(node, ast.ImportFrom, name)
            self.assertTrue(node.module.startswith("stonebreathdesk."), name)
            self.assertTrue(all(alias.name != "*" for alias in node.names), name)

    def test_statements_and_expressions(self):
        for name, node in nodes(ast.stmt):
            self.assertIsInstance(node, STATEMENTS, (name, node.lineno))
            if isinstance(node, ast.Assign):
                self.assertEqual(len(node.targets), 1, (name, node.lineno))
            if isinstance(node, (ast.For, ast.While)):
                self.assertEqual(node.orelse, [], (name, node.lineno))
        for name, node in nodes(NEVER):
            self.fail((name, node))
        for name, node in nodes(ast.Constant):
            self.assertNotIsInstance(node.value, (float, bytes, complex), name)

    def test_names(self):
        for name, bound in bound_names():
            if bound != "__init__":
                self.assertRegex(bound, r"^[A-Za-z][A-Za-z0-9_]*$", name)
            self.assertNotIn(bound, dir(builtins), name)
            self.assertNotIn(bound, NAMES_NOT_USED, name)

    def test_pythons_own_names_that_are_used(self):
        for name, node in nodes(ast.Name):
            if node.id in dir(builtins):
                self.assertIn(node.id, OWN_NAMES, (name, node.lineno))

    def test_methods_that_are_called(self):
        own = [node.name for name, node in nodes(ast.FunctionDef)]
        for name, node in nodes(ast.Call):
            if isinstance(node.func, ast.Attribute):
                self.assertIn(node.func.attr, own + METHODS_OF_PYTHON, (name, node.lineno))


if __name__ == "__main__":
    unittest.main()
