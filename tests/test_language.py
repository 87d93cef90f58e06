"""A guard for those rules of the language document that are easy to break unseen."""

import ast
import builtins
import pathlib
import re
import unittest

PACKAGE = pathlib.Path(__file__).resolve().parent.parent / "heldtogether"

NOT_IN_ANY_TEXT = re.compile(
    r"\b(type|typing|typing_extensions|enum|Enum|IntEnum|StrEnum|Flag|IntFlag|Generic|Protocol|ABC|ABCMeta|namedtuple"
    r"|NamedTuple|TypedDict|TYPE_CHECKING|abstractmethod)\b|dataclass|overload|contextmanager")

OWN_NAMES = set(
    "len range enumerate zip min max sum abs sorted reversed int str bool list tuple dict set frozenset isinstance ord"
    " repr any all divmod Exception ValueError TypeError KeyError IndexError LookupError ZeroDivisionError"
    " ArithmeticError OverflowError RuntimeError NotImplementedError AttributeError StopIteration".split())

NOT_USED = (ast.With, ast.Match, ast.Delete, ast.Global, ast.Nonlocal, ast.Assert, ast.Yield, ast.YieldFrom, ast.Await,
            ast.AsyncFunctionDef, ast.GeneratorExp, ast.SetComp, ast.DictComp, ast.NamedExpr, ast.Starred, ast.Import,
            ast.Div, ast.Pow, ast.AnnAssign)


def sources():
    return [(path.name, path.read_text(encoding="utf-8")) for path in sorted(PACKAGE.rglob("*.py"))]


class Language(unittest.TestCase):
    def nodes(self):
        for name, text in sources():
            for node in ast.walk(ast.parse(text)):
                yield name, node

    def test_only_plain_files(self):
        files = [p.name for p in PACKAGE.rglob("*") if p.is_file() and "__pycache__" not in p.parts]
        self.assertIn("granted.py", files)
        for name in files:
            self.assertRegex(name, r"^[a-z0-9_]+\.py$")

    def test_signs_words_and_sizes(self):
        for name, text in sources():
            self.assertRegex(text, r"^[ -~\n]*$", name)
            self.assertIsNone(NOT_IN_ANY_TEXT.search(text), name)
            self.assertLessEqual(text.count("\n"), 400, name)
            self.assertLessEqual(max(len(row) for row in text.split("\n")), 120, name)

    def test_functions_are_short_and_plain(self):
        for name, node in self.nodes():
            if isinstance(node, ast.FunctionDef):
                self.assertLessEqual(node.end_lineno - node.lineno + 1, 40, (name, node.name))
                self.assertFalse(node.decorator_list or node.args.vararg or node.args.kwarg or node.args.kwonlyargs)
                for parameter in node.args.args:
                    self.assertNotIn(parameter.arg, dir(builtins), name)

    def test_forms_that_are_not_used(self):
        for name, node in self.nodes():
            self.assertNotIsInstance(node, NOT_USED, (name, getattr(node, "lineno", 0)))
            if isinstance(node, ast.Assign):
                self.assertEqual(len(node.targets), 1)
                self.assertNotIsInstance(node.targets[0], ast.Tuple, (name, node.lineno))

    def test_names_and_imports(self):
        for name, node in self.nodes():
            if isinstance(node, ast.Name):
                self.assertFalse(node.id.startswith("_"), (name, node.id))
                if node.id in dir(builtins):
                    self.assertIn(node.id, OWN_NAMES, name)
                    self.assertIsInstance(node.ctx, ast.Load, (name, node.id))
            if isinstance(node, ast.ImportFrom):
                self.assertTrue(node.module.startswith("heldtogether."), name)
                self.assertEqual(node.level, 0, name)


if __name__ == "__main__":
    unittest.main()
