"""The form of the package's own files, as far as it can be read from them row by row."""

import ast
import builtins
import pathlib
import re
import unittest

PACKAGE = pathlib.Path(__file__).resolve().parent.parent / "stonebreathdesk"
FILES = sorted(PACKAGE.rglob("*.py"))

STATEMENTS = (
    ast.Assign, ast.AugAssign, ast.If, ast.While, ast.For, ast.Return, ast.Break, ast.Continue, ast.Pass,
    ast.Raise, ast.Try, ast.Expr, ast.FunctionDef, ast.ClassDef, ast.ImportFrom,
)
NEVER = (
    ast.Starred, ast.SetComp, ast.DictComp, ast.GeneratorExp, ast.NamedExpr, ast.Div, ast.Set, ast.Yield, ast.Await,
)
OWN_NAMES = """
    len range enumerate zip min max sum abs sorted reversed int str bool list tuple dict set frozenset isinstance ord
    repr any all divmod Exception ValueError TypeError KeyError IndexError LookupError ZeroDivisionError
    ArithmeticError OverflowError RuntimeError NotImplementedError StopIteration
""".split()
METHODS_OF_PYTHON = """
    append clear copy count endswith extend find get index insert isalnum isalpha isdigit islower isspace isupper items
    join keys ljust lower lstrip partition pop remove replace reverse rfind rjust rpartition rsplit rstrip setdefault
    split splitlines startswith strip update upper values zfill bit_length
""".split()
WORDS = """
    type typing typing_extensions enum Enum IntEnum StrEnum Flag IntFlag Generic Protocol ABC ABCMeta namedtuple
    NamedTuple TypedDict TYPE_CHECKING abstractmethod
""".split()
NAMES_NOT_USED = """
    register mro elements open input version_info with_traceback add_note attrgetter breakpoint builtins compile
    copyright credits delattr dir eval exec exit gc getattr globals hasattr help id importlib license locals
    methodcaller os quit setattr super type vars sys
""".split()


def trees():
    return [(file.name, ast.parse(file.read_text(encoding="ascii"))) for file in FILES]


def nodes(kind):
    return [(name, node) for name, tree in trees() for node in ast.walk(tree) if isinstance(node, kind)]


def bound_names():
    found = []
    for name, node in nodes((ast.FunctionDef, ast.ClassDef, ast.arg, ast.Name)):
        if isinstance(node, ast.arg):
            found.append((name, node.arg))
        elif isinstance(node, ast.Name):
            if isinstance(node.ctx, ast.Store):
                found.append((name, node.id))
        else:
            found.append((name, node.name))
    return found


class Form(unittest.TestCase):
    def test_only_plain_files_lie_in_the_package(self):
        for path in PACKAGE.rglob("*"):
            if "__pycache__" not in path.parts:
                self.assertRegex(path.name, r"^[a-z][a-z0-9_]*\.py$|^__init__\.py$", path)

    def test_size_and_signs(self):
        for file in FILES:
            text = file.read_text(encoding="ascii")
            self.assertRegex(text, r"\A[ -~\n]*\Z", file.name)
            self.assertLessEqual(len(text.splitlines()), 400, file.name)
            for row in text.splitlines():
                self.assertLessEqual(len(row), 120, (file.name, row))

    def test_words_that_stand_nowhere(self):
        for file in FILES:
            text = file.read_text(encoding="ascii")
            found = set(re.findall(r"\w+", text)) & set(WORDS)
            self.assertEqual(found, set(), file.name)
            self.assertIsNone(re.search("dataclass|overload|contextmanager", text), file.name)

    def test_functions_are_short_and_plain(self):
        for name, node in nodes(ast.FunctionDef):
            self.assertLessEqual(node.end_lineno - node.lineno + 1, 40, (name, node.name))
            self.assertEqual(node.decorator_list, [], (name, node.name))
            plain = node.args
            self.assertFalse(plain.vararg or plain.kwarg or plain.kwonlyargs or plain.posonlyargs, (name, node.name))

    def test_imports_are_the_packages_own(self):
        for name, node in nodes((ast.Import, ast.ImportFrom)):
            self.assertIsInstance(node, ast.ImportFrom, name)
            self.assertTrue(node.module.startswith("stonebreathdesk."), name)
            self.assertTrue(all(alias.name != "*" for alias in node.names), name)

    def test_statements_and_expressions(self):
        for name, node in nodes(ast.stmt):
            self.assertIsInstance(node, STATEMENTS, (name, node.lineno))
            if isinstance(node, ast.Assign):
                self.assertEqual(len(node.targets), 1, (name, node.lineno))
            if isinstance(node, (ast.For, ast.While)):
                self.assertEqual(node.orelse, [], (name, node.lineno))
        for name, node in nodes(NEVER):
            self.fail((name, node))
        for name, node in nodes(ast.Constant):
            self.assertNotIsInstance(node.value, (float, bytes, complex), name)

    def test_names(self):
        for name, bound in bound_names():
            if bound != "__init__":
                self.assertRegex(bound, r"^[A-Za-z][A-Za-z0-9_]*$", name)
            self.assertNotIn(bound, dir(builtins), name)
            self.assertNotIn(bound, NAMES_NOT_USED, name)

    def test_pythons_own_names_that_are_used(self):
        for name, node in nodes(ast.Name):
            if node.id in dir(builtins):
                self.assertIn(node.id, OWN_NAMES, (name, node.lineno))

    def test_methods_that_are_called(self):
        own = [node.name for name, node in nodes(ast.FunctionDef)]
        for name, node in nodes(ast.Call):
            if isinstance(node.func, ast.Attribute):
                self.assertIn(node.func.attr, own + METHODS_OF_PYTHON, (name, node.lineno))

    def test_the_top_of_each_file(self):
        for name, tree in trees():
            bound = []
            for node in tree.body:
                if isinstance(node, ast.Expr):
                    self.assertIs(node, tree.body[0], (name, node.lineno))
                    self.assertIsInstance(node.value.value, str, name)
                elif isinstance(node, ast.Assign):
                    bound.append(node.targets[0].id)
                    ast.literal_eval(node.value)
                elif isinstance(node, ast.ImportFrom):
                    bound.extend(alias.name for alias in node.names)
                else:
                    self.assertIsInstance(node, (ast.FunctionDef, ast.ClassDef), (name, node.lineno))
                    bound.append(node.name)
            self.assertEqual(len(bound), len(set(bound)), name)

    def test_locals_are_not_called_like_an_import_or_a_class(self):
        for name, tree in trees():
            taken = [alias.name for node in tree.body if isinstance(node, ast.ImportFrom) for alias in node.names]
            taken += [node.name for node in tree.body if isinstance(node, ast.ClassDef)]
            for node in ast.walk(tree):
                if isinstance(node, ast.arg):
                    self.assertNotIn(node.arg, taken, (name, node.lineno))
                if isinstance(node, ast.Name) and isinstance(node.ctx, ast.Store):
                    self.assertNotIn(node.id, taken, (name, node.lineno))

    def test_imports_come_from_where_a_name_is_defined_and_do_not_go_round(self):
        drawn = {}
        for name, tree in trees():
            drawn[name] = []
            for node in tree.body:
                if isinstance(node, ast.ImportFrom):
                    source = node.module.split(".")[-1] + ".py"
                    drawn[name].append(source)
                    top = dict(trees())[source].body
                    defined = [n.name for n in top if isinstance(n, (ast.FunctionDef, ast.ClassDef))]
                    defined += [n.targets[0].id for n in top if isinstance(n, ast.Assign)]
                    for alias in node.names:
                        self.assertIn(alias.name, defined, (name, source))
        left = dict(drawn)
        while left:
            free = [name for name in left if not any(source in left for source in left[name])]
            self.assertNotEqual(free, [], left)
            left = {name: sources for name, sources in left.items() if name not in free}

    def test_each_import_is_used(self):
        for name, tree in trees():
            used = [node.id for node in ast.walk(tree) if isinstance(node, ast.Name)]
            for node in tree.body:
                if isinstance(node, ast.ImportFrom):
                    for alias in node.names:
                        self.assertIn(alias.name, used, name)

    def test_no_name_is_a_method_and_a_value(self):
        methods = {n.name for name, node in nodes(ast.ClassDef) for n in node.body if isinstance(n, ast.FunctionDef)}
        given = {node.attr for name, node in nodes(ast.Attribute) if isinstance(node.ctx, ast.Store)}
        self.assertEqual(methods & given, set())
        barred = {attr for kind in (str, int, list, dict, set, bytes) for attr in dir(kind)} | {"args"}
        self.assertEqual(given & barred, set())
        self.assertEqual(methods & barred - {"__init__"}, set())

    def test_class_bodies(self):
        for name, node in nodes(ast.ClassDef):
            self.assertEqual(node.decorator_list, [], name)
            for part in node.body:
                self.assertIsInstance(part, (ast.FunctionDef, ast.Pass), (name, part.lineno))

    def test_walks_are_not_kept(self):
        for name, node in nodes((ast.Assign, ast.Return)):
            value = node.value
            if isinstance(value, ast.Call):
                called = value.func.id if isinstance(value.func, ast.Name) else value.func.attr
                self.assertNotIn(
                    called, ("range", "zip", "enumerate", "reversed", "items", "keys", "values"), (name, node.lineno)
                )

    def test_is_stands_beside_none_alone(self):
        for name, node in nodes(ast.Compare):
            for sign, right in zip(node.ops, node.comparators):
                if isinstance(sign, (ast.Is, ast.IsNot)):
                    self.assertIsInstance(right, ast.Constant, (name, node.lineno))
                    self.assertIn(right.value, (None, True, False), (name, node.lineno))

    def test_errors_are_the_programs_own(self):
        own = [node.name for name, node in nodes(ast.ClassDef)]
        for name, node in nodes(ast.ExceptHandler):
            self.assertIn(node.type.id, own, (name, node.lineno))
        for name, node in nodes(ast.Raise):
            self.assertIn(node.exc.func.id, own, (name, node.lineno))

    def test_texts_have_no_percent_sign(self):
        for name, node in nodes(ast.Constant):
            if isinstance(node.value, str):
                self.assertNotIn("%", node.value, (name, node.lineno))

    def test_comprehensions_have_one_for_and_one_if(self):
        for name, node in nodes(ast.ListComp):
            self.assertEqual(len(node.generators), 1, (name, node.lineno))
            self.assertLessEqual(len(node.generators[0].ifs), 1, (name, node.lineno))


if __name__ == "__main__":
    unittest.main()
