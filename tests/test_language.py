"""The form that the package's files keep to, as far as it can be seen from their text."""

import ast
import builtins
import pathlib
import re
import unittest

PACKAGE = pathlib.Path(__file__).resolve().parent.parent / "stonecave"
FILES = sorted(PACKAGE.glob("*.py"))

PYTHONS_OWN = set("""len range enumerate zip min max sum abs sorted reversed int str bool list tuple dict set frozenset
    isinstance ord repr any all divmod Exception ValueError TypeError KeyError IndexError LookupError ZeroDivisionError
    ArithmeticError OverflowError RuntimeError NotImplementedError AttributeError StopIteration""".split())
METHODS = set("""append clear copy count endswith extend find get index insert isalnum isalpha isdigit islower isspace
    isupper items join keys ljust lower lstrip partition pop remove replace reverse rfind rjust rpartition rsplit rstrip
    setdefault split splitlines startswith strip update upper values zfill bit_length""".split())
WORDS = r"""\b(type|typing|typing_extensions|enum|Enum|IntEnum|StrEnum|Flag|IntFlag|Generic|Protocol|ABC|ABCMeta
    |namedtuple|NamedTuple|TypedDict|TYPE_CHECKING|abstractmethod)\b|dataclass|overload|contextmanager"""
STATEMENTS = (ast.Assign, ast.AugAssign, ast.If, ast.While, ast.For, ast.Return, ast.Break, ast.Continue, ast.Pass,
              ast.Raise, ast.Try, ast.Expr, ast.FunctionDef, ast.ClassDef, ast.ImportFrom)
NO_EXPRESSIONS = (ast.Set, ast.SetComp, ast.DictComp, ast.GeneratorExp, ast.NamedExpr, ast.Starred, ast.Await,
                  ast.Yield, ast.YieldFrom, ast.Div, ast.MatMult)


def trees():
    return [(file.name, ast.parse(file.read_text(encoding="ascii"))) for file in FILES]


def nodes(kind):
    return [(name, node) for name, tree in trees() for node in ast.walk(tree) if isinstance(node, kind)]


class Files(unittest.TestCase):
    def test_nothing_else_lies_in_the_package(self):
        found = sorted(path.name for path in PACKAGE.iterdir() if path.name != "__pycache__")
        self.assertEqual(found, [file.name for file in FILES])
        self.assertIn("__init__.py", found)

    def test_sizes_and_signs(self):
        for file in FILES:
            rows = file.read_text(encoding="ascii").split("\n")
            self.assertLessEqual(len(rows), 400, file.name)
            for row in rows:
                self.assertLessEqual(len(row), 120, row)
                self.assertRegex(row, r"^[ -~]*$")

    def test_words_that_stand_nowhere(self):
        for file in FILES:
            self.assertIsNone(re.search(WORDS, file.read_text(encoding="ascii"), re.VERBOSE), file.name)


class Form(unittest.TestCase):
    def test_each_file_begins_with_a_docstring(self):
        for name, tree in trees():
            self.assertIsNotNone(ast.get_docstring(tree), name)
            for node in tree.body[1:]:
                self.assertIsInstance(node, (ast.ImportFrom, ast.Assign, ast.FunctionDef, ast.ClassDef), name)

    def test_statements(self):
        for name, node in nodes(ast.stmt):
            self.assertIsInstance(node, STATEMENTS, (name, node.lineno))
        for name, node in nodes(ast.Assign):
            self.assertEqual(len(node.targets), 1, (name, node.lineno))

    def test_expressions(self):
        for name, node in nodes(NO_EXPRESSIONS):
            self.fail((name, node))
        for name, node in nodes(ast.Constant):
            self.assertIn(node.value.__class__, (int, str, bool, type(None)), (name, node.lineno))

    def test_imports_are_the_package_s_own(self):
        for name, node in nodes(ast.ImportFrom):
            self.assertRegex(node.module, r"^stonecave\.[a-z]+$", name)
            self.assertEqual(node.level, 0, name)
            self.assertTrue(all(alias.name != "*" and alias.asname is None for alias in node.names), name)

    def test_functions(self):
        for name, node in nodes(ast.FunctionDef):
            self.assertLessEqual(node.end_lineno - node.lineno + 1, 40, (name, node.name))
            self.assertEqual((node.decorator_list, node.args.vararg, node.args.kwarg, node.args.kwonlyargs),
                             ([], None, None, []), (name, node.name))

    def test_python_s_own_names(self):
        for name, node in nodes(ast.Name):
            if hasattr(builtins, node.id):
                self.assertIn(node.id, PYTHONS_OWN, (name, node.lineno))
                self.assertIsInstance(node.ctx, ast.Load, (name, node.lineno))
            self.assertFalse(node.id.startswith("_"), (name, node.lineno))

    def test_methods(self):
        for name, node in nodes(ast.Call):
            if isinstance(node.func, ast.Attribute):
                self.assertIn(node.func.attr, METHODS, (name, node.lineno))


if __name__ == "__main__":
    unittest.main()
