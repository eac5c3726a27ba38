"""Point 1, no clock, chance or files, and the part of the language's rules that can be read off the package's files."""

import ast
import builtins
import re
import unittest
from pathlib import Path

PACKAGE = Path(__file__).resolve().parent.parent / "lanemap"

NODES = (
    ast.Module, ast.FunctionDef, ast.ClassDef, ast.arguments, ast.arg, ast.ImportFrom, ast.alias,
    ast.Assign, ast.AugAssign, ast.If, ast.While, ast.For, ast.Return, ast.Break, ast.Continue, ast.Pass,
    ast.Raise, ast.Try, ast.ExceptHandler, ast.Expr, ast.Constant, ast.Name, ast.List, ast.Tuple, ast.Dict,
    ast.BinOp, ast.UnaryOp, ast.BoolOp, ast.Compare, ast.IfExp, ast.Call, ast.keyword, ast.Attribute,
    ast.Subscript, ast.Slice, ast.ListComp, ast.comprehension, ast.Lambda, ast.JoinedStr, ast.FormattedValue,
    ast.expr_context, ast.operator, ast.unaryop, ast.boolop, ast.cmpop,
)
OWN_NAMES = set(
    "len range enumerate zip min max sum abs sorted reversed int str bool list tuple dict set frozenset isinstance "
    "ord repr any all divmod ValueError Exception KeyError IndexError LookupError ZeroDivisionError ArithmeticError "
    "OverflowError RuntimeError NotImplementedError StopIteration".split()
)
METHODS = set(
    "append clear copy count endswith extend find get index insert isalnum isalpha isdigit islower isspace isupper "
    "items join keys ljust lower lstrip partition pop remove replace reverse rfind rjust rpartition rsplit rstrip "
    "setdefault split splitlines startswith strip update upper values zfill bit_length".split()
)
WORDS = set(
    "type typing typing_extensions enum Enum IntEnum StrEnum Flag IntFlag Generic Protocol ABC ABCMeta namedtuple "
    "NamedTuple TypedDict TYPE_CHECKING abstractmethod".split()
)


def package_files():
    return sorted(path for path in PACKAGE.rglob("*") if "__pycache__" not in path.parts)


def each_file():
    for path in package_files():
        text = path.read_text(encoding="utf-8")
        yield path.name, text, ast.parse(text)


def where(file, node):
    return f"{file}:{getattr(node, 'lineno', 0)}"


def bound_names(tree):
    for node in ast.walk(tree):
        if isinstance(node, ast.arg):
            yield node.arg
        elif isinstance(node, (ast.FunctionDef, ast.ClassDef)):
            yield node.name
        elif isinstance(node, ast.Name) and isinstance(node.ctx, ast.Store):
            yield node.id


class Language(unittest.TestCase):
    def test_plain_files_alone(self):
        self.assertIn(PACKAGE / "__init__.py", package_files())
        for path in package_files():
            self.assertRegex(path.name, r"\A([a-z][a-z0-9_]*|__init__)\.py\Z")

    def test_signs_sizes_and_words(self):
        for file, text, tree in each_file():
            rows = text.split("\n")
            self.assertEqual(re.findall(r"[^ -~\n]", text), [], file)
            self.assertLessEqual(len(rows), 400, file)
            self.assertLessEqual(max(map(len, rows)), 120, file)
            self.assertEqual(set(re.findall(r"\w+", text)) & WORDS, set(), file)
            self.assertIsNone(re.search("dataclass|overload|contextmanager", text), file)
            for node in ast.walk(tree):
                if isinstance(node, ast.FunctionDef):
                    self.assertLessEqual(node.end_lineno - node.lineno + 1, 40, where(file, node))

    def test_allowed_forms_alone(self):
        for file, text, tree in each_file():
            for node in ast.walk(tree):
                self.assertIsInstance(node, NODES, where(file, node))
                self.assertNotIsInstance(node, (ast.Div, ast.MatMult))
                if isinstance(node, ast.Assign):
                    self.assertEqual(len(node.targets), 1, where(file, node))
                if isinstance(node, (ast.For, ast.While)):
                    self.assertEqual(node.orelse, [], where(file, node))
                if isinstance(node, (ast.FunctionDef, ast.ClassDef)):
                    self.assertEqual(node.decorator_list, [], where(file, node))
                if isinstance(node, ast.arguments):
                    unlike = (node.vararg, node.kwarg, node.kwonlyargs, node.posonlyargs)
                    self.assertEqual(unlike, (None, None, [], []), file)
                if isinstance(node, ast.Constant):
                    self.assertNotIsInstance(node.value, (float, bytes, complex), where(file, node))

    def test_imports_from_the_package_alone(self):
        for file, text, tree in each_file():
            for node in ast.walk(tree):
                if isinstance(node, ast.ImportFrom):
                    self.assertEqual(node.level, 0, where(file, node))
                    self.assertTrue(node.module.startswith("lanemap."), where(file, node))
                    self.assertTrue((PACKAGE / (node.module.split(".")[1] + ".py")).is_file(), where(file, node))
                    self.assertNotIn("*", [name.name for name in node.names], where(file, node))

    def test_listed_names_of_pythons_own_alone(self):
        for file, text, tree in each_file():
            for node in ast.walk(tree):
                if isinstance(node, ast.Name) and hasattr(builtins, node.id):
                    self.assertIn(node.id, OWN_NAMES, where(file, node))
                if isinstance(node, ast.Attribute):
                    self.assertIn(node.attr, METHODS, where(file, node))

    def test_names_are_plain_and_none_of_pythons_own(self):
        for file, text, tree in each_file():
            for name in bound_names(tree):
                self.assertRegex(name, r"\A[A-Za-z][A-Za-z0-9_]*\Z", file)
                self.assertFalse(hasattr(builtins, name), f"{file}: {name}")


if __name__ == "__main__":
    unittest.main()
