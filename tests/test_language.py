"""The package keeps to its small part of Python, as far as a tree can tell."""

import ast
import builtins
import pathlib
import re
import unittest

PACKAGE = pathlib.Path(__file__).resolve().parent.parent / "undertexts"
FILES = sorted(PACKAGE.glob("*.py"))

NODES = (
    ast.Module, ast.FunctionDef, ast.ClassDef, ast.arguments, ast.arg, ast.ImportFrom, ast.alias,
    ast.Assign, ast.If, ast.While, ast.For, ast.Return, ast.Break, ast.Continue, ast.Pass, ast.Raise,
    ast.Try, ast.ExceptHandler, ast.Expr,
    ast.Constant, ast.List, ast.Tuple, ast.Dict, ast.BinOp, ast.UnaryOp, ast.BoolOp, ast.Compare, ast.IfExp,
    ast.Call, ast.Attribute, ast.Subscript, ast.Slice, ast.ListComp, ast.comprehension, ast.Name,
    ast.Add, ast.Sub, ast.Mult, ast.FloorDiv, ast.Mod, ast.USub, ast.Not, ast.And, ast.Or,
    ast.Eq, ast.NotEq, ast.Lt, ast.LtE, ast.Gt, ast.GtE, ast.In, ast.NotIn, ast.Is, ast.IsNot, ast.Load, ast.Store,
)
OWN_NAMES = (
    "len range enumerate zip min max sum abs sorted reversed int str bool list tuple dict isinstance ord repr any all "
    "divmod Exception ValueError KeyError IndexError LookupError ZeroDivisionError"
).split()
METHODS = "append clear copy count extend find get index insert items join keys pop remove reverse values".split()
WORDS_OUT = (
    "type typing typing_extensions enum Enum IntEnum StrEnum Flag IntFlag Generic Protocol ABC ABCMeta namedtuple "
    "NamedTuple TypedDict TYPE_CHECKING abstractmethod register mro elements open input eval exec id sys os vars"
).split()
PARTS_OUT = ("dataclass", "overload", "contextmanager")


class Language(unittest.TestCase):
    def each(self):
        for path in FILES:
            with self.subTest(file=path.name):
                source = path.read_text(encoding="utf-8")
                yield path, source, ast.parse(source)

    def test_only_plain_files(self):
        self.assertTrue((PACKAGE / "__init__.py").is_file())
        for path in PACKAGE.iterdir():
            if path.name != "__pycache__":
                self.assertRegex(path.name, r"^[a-z_][a-z0-9_]*\.py$")

    def test_sizes_and_signs(self):
        for path, source, tree in self.each():
            self.assertRegex(source, r"\A[ -~\n]*\Z")
            lines = source.split("\n")
            self.assertLessEqual(len(lines), 400)
            self.assertLessEqual(max(map(len, lines)), 120)
            for node in ast.walk(tree):
                if isinstance(node, ast.FunctionDef):
                    self.assertLessEqual(node.end_lineno - node.lineno + 1, 40, node.name)

    def test_words_that_stand_nowhere(self):
        for path, source, tree in self.each():
            words = re.findall(r"[A-Za-z0-9_]+", source)
            self.assertEqual([word for word in words if word in WORDS_OUT], [])
            self.assertEqual([part for part in PARTS_OUT if part in source], [])

    def test_statements_and_expressions(self):
        for path, source, tree in self.each():
            for node in ast.walk(tree):
                self.assertIsInstance(node, NODES, getattr(node, "lineno", None))
                if isinstance(node, ast.Assign):
                    self.assertEqual(len(node.targets), 1)
                    self.assertNotIsInstance(node.targets[0], (ast.Tuple, ast.List))
                if isinstance(node, (ast.For, ast.While)):
                    self.assertEqual(node.orelse, [])
                if isinstance(node, ast.Try):
                    self.assertEqual(node.finalbody, [])
                if isinstance(node, ast.Expr) and node is not tree.body[0]:
                    self.assertIsInstance(node.value, ast.Call, node.lineno)
                if isinstance(node, ast.Constant):
                    self.assertIsInstance(node.value, (int, str, type(None)))

    def test_imports_name_what_another_file_defines(self):
        for path, source, tree in self.each():
            for node in ast.walk(tree):
                if isinstance(node, ast.ImportFrom):
                    self.assertIn(node, tree.body)
                    self.assertEqual(node.level, 0)
                    package, file = node.module.split(".")
                    self.assertEqual(package, "undertexts")
                    bound = top_names(PACKAGE / (file + ".py"))
                    for alias in node.names:
                        self.assertIn(alias.name, bound)
                        self.assertIsNone(alias.asname)

    def test_names(self):
        for path, source, tree in self.each():
            imported = [alias.name for node in tree.body if isinstance(node, ast.ImportFrom) for alias in node.names]
            top = top_names(path)
            self.assertEqual(len(top + imported), len(set(top + imported)))
            stored = [node.id for node in ast.walk(tree) if isinstance(node, ast.Name)
                      and isinstance(node.ctx, ast.Store)]
            given = [node.arg for node in ast.walk(tree) if isinstance(node, ast.arg)]
            caught = [node.name for node in ast.walk(tree) if isinstance(node, ast.ExceptHandler) and node.name]
            for name in top + stored + given + caught:
                self.assertRegex(name, r"^[A-Za-z][A-Za-z0-9_]*$")
                self.assertNotIn(name, dir(builtins))
            for name in stored + given + caught:
                self.assertNotIn(name, imported)
            known = set(top + imported + stored + given + caught + OWN_NAMES)
            for node in ast.walk(tree):
                if isinstance(node, ast.Name):
                    self.assertIn(node.id, known)

    def test_methods_that_are_called(self):
        for path, source, tree in self.each():
            for node in ast.walk(tree):
                if isinstance(node, ast.Call) and isinstance(node.func, ast.Attribute):
                    self.assertIn(node.func.attr, METHODS)


def top_names(path):
    """The names that a file defines itself, at its top."""
    names = []
    for node in ast.parse(path.read_text(encoding="utf-8")).body:
        if isinstance(node, (ast.FunctionDef, ast.ClassDef)):
            names.append(node.name)
        if isinstance(node, ast.Assign):
            names.append(node.targets[0].id)
    return names


if __name__ == "__main__":
    unittest.main()
