"""The form of the package's files: those rules of ../shared/LANGUAGE.md that a plain look can tell."""

import ast
import builtins
import pathlib
import re
import unittest

PACKAGE = pathlib.Path(__file__).resolve().parent.parent / "guestcircles"

# L6 and L7: what statements and expressions are made of; operators and contexts are looked at apart.
FORMS = (
    ast.Module, ast.ImportFrom, ast.alias, ast.FunctionDef, ast.ClassDef, ast.arguments, ast.arg,
    ast.Assign, ast.AugAssign, ast.AnnAssign, ast.If, ast.While, ast.For, ast.Return, ast.Break, ast.Continue,
    ast.Pass, ast.Raise, ast.Try, ast.ExceptHandler, ast.Expr, ast.Constant, ast.Name, ast.List, ast.Tuple,
    ast.Dict, ast.Set, ast.BinOp, ast.UnaryOp, ast.Compare, ast.BoolOp, ast.IfExp, ast.Call, ast.keyword,
    ast.Attribute, ast.Subscript, ast.Slice, ast.ListComp, ast.comprehension, ast.JoinedStr, ast.FormattedValue,
    ast.Lambda, ast.operator, ast.unaryop, ast.boolop, ast.cmpop, ast.expr_context,
)
BARRED_OPERATORS = (ast.Div, ast.MatMult)
# L8, less chr (L27) and less print, which __main__.py alone may name.
OWN_NAMES_OF_PYTHON = set(
    "len range enumerate zip min max sum abs sorted reversed int str bool list tuple dict set frozenset "
    "isinstance ord repr any all divmod Exception ValueError TypeError KeyError IndexError LookupError "
    "ZeroDivisionError ArithmeticError OverflowError RuntimeError NotImplementedError AttributeError "
    "StopIteration".split()
)
# L17: words that stand nowhere, remarks and texts too.
BARRED_WORDS = re.compile(
    r"\b(type|typing|typing_extensions|enum|Enum|IntEnum|StrEnum|Flag|IntFlag|Generic|Protocol|ABC|ABCMeta"
    r"|namedtuple|NamedTuple|TypedDict|TYPE_CHECKING|abstractmethod)\b|dataclass|overload|contextmanager"
)


def files():
    return sorted(PACKAGE.rglob("*.py"))


def nodes():
    for file in files():
        for node in ast.walk(ast.parse(file.read_text("utf-8"))):
            yield f"{file.name}:{getattr(node, 'lineno', 0)}", node


def bound_names():
    """The names that the package's files give to things: functions, parameters, locals, values."""
    for place, node in nodes():
        if isinstance(node, (ast.FunctionDef, ast.ClassDef)):
            yield place, node.name
        elif isinstance(node, ast.arg):
            yield place, node.arg
        elif isinstance(node, ast.Name) and isinstance(node.ctx, ast.Store):
            yield place, node.id


class Form(unittest.TestCase):
    def test_nothing_but_plain_files(self):
        self.assertIn(PACKAGE / "__init__.py", files())
        for path in PACKAGE.rglob("*"):
            if "__pycache__" not in path.parts:
                self.assertRegex(path.name, r"\A([a-z][a-z0-9_]*|__init__|__main__)(\.py)?\Z")
                self.assertTrue(path.is_dir() or path.suffix == ".py", path)

    def test_signs_and_sizes(self):
        for file in files():
            text = file.read_bytes().decode("ascii")
            self.assertRegex(text, r"\A[ -~\n]*\Z", file)
            rows = text.split("\n")
            self.assertLessEqual(len(rows), 399, file)
            self.assertLessEqual(max(len(row) for row in rows), 120, file)
            self.assertIsNone(BARRED_WORDS.search(text), file)

    def test_functions_of_at_most_forty_lines(self):
        for place, node in nodes():
            if isinstance(node, ast.FunctionDef):
                self.assertLessEqual(node.end_lineno - node.lineno + 1, 40, place)

    def test_forms(self):
        for place, node in nodes():
            self.assertIsInstance(node, FORMS, place)
            self.assertNotIsInstance(node, BARRED_OPERATORS, place)
            self.assertFalse(getattr(node, "decorator_list", []), place)
            if isinstance(node, ast.Assign):
                self.assertEqual(len(node.targets), 1, place)
            if isinstance(node, (ast.For, ast.While)):
                self.assertEqual(node.orelse, [], place)
            if isinstance(node, ast.Try):
                self.assertEqual(node.finalbody, [], place)
            if isinstance(node, ast.Constant):
                self.assertIsInstance(node.value, (int, str, type(None)), place)
            if isinstance(node, ast.ListComp):
                self.assertEqual(len(node.generators), 1, place)
                self.assertLessEqual(len(node.generators[0].ifs), 1, place)

    def test_imports_of_the_package_alone(self):
        for place, node in nodes():
            if isinstance(node, ast.ImportFrom):
                self.assertEqual(node.level, 0, place)
                self.assertRegex(node.module, r"\A(guestcircles\.[a-z0-9_.]+|__future__)\Z", place)

    def test_names(self):
        given = {name for place, name in bound_names()}
        for place, name in bound_names():
            self.assertRegex(name, r"\A([A-Za-z][A-Za-z0-9_]*|__(init|eq|repr|str|len|all|version)__)\Z", place)
            self.assertNotIn(name, dir(builtins), place)
        for place, node in nodes():
            if isinstance(node, ast.ImportFrom):
                given.update(alias.asname or alias.name for alias in node.names)
        for place, node in nodes():
            if isinstance(node, ast.Name):
                self.assertIn(node.id, given | OWN_NAMES_OF_PYTHON, place)


if __name__ == "__main__":
    unittest.main()
