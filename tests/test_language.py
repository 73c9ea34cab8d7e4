"""The files of the package keep to the rules of the language that can be looked at simply."""

import ast
import builtins
import pathlib
import re
import unittest
import warnings

FOLDER = pathlib.Path(__file__).resolve().parent.parent / "safeupto"
BUILTINS = set("""
    len range enumerate zip min max sum abs sorted reversed int str bool bytes list tuple dict set frozenset isinstance
    ord repr any all divmod pow Exception ValueError TypeError KeyError IndexError LookupError ZeroDivisionError
    ArithmeticError OverflowError RuntimeError NotImplementedError AttributeError StopIteration NotImplemented property
    object""".split())
ALL_BUILTINS = set(dir(builtins))
WORDS = re.compile(r"\b(type|typing|typing_extensions|enum|Enum|IntEnum|StrEnum|Flag|IntFlag|Generic|Protocol|ABC"
                   r"|ABCMeta|namedtuple|NamedTuple|TypedDict|TYPE_CHECKING|abstractmethod)\b")
NOT_ALLOWED = (ast.AsyncFunctionDef, ast.Global, ast.Await, ast.GeneratorExp, ast.NamedExpr, ast.AnnAssign)


def trees():
    for path in sorted(FOLDER.glob("*.py")):
        yield path.name, ast.parse(path.read_text("utf-8"))


class Language(unittest.TestCase):

    def test_files(self):
        for path in FOLDER.iterdir():
            if path.name != "__pycache__":
                self.assertRegex(path.name, r"^[a-z0-9_]+\.py$")

    def test_lines(self):
        for path in FOLDER.glob("*.py"):
            text = path.read_bytes()
            self.assertTrue(all(byte == 10 or 32 <= byte <= 126 for byte in text), path.name)
            lines = text.decode("ascii").split("\n")
            self.assertLessEqual(len(lines), 399, path.name)
            self.assertLessEqual(max(len(line) for line in lines), 120, path.name)

    def test_functions(self):
        for name, tree in trees():
            for node in ast.walk(tree):
                if isinstance(node, ast.FunctionDef):
                    self.assertLessEqual(node.end_lineno - node.lineno + 1, 40, (name, node.name))
                    for decorator in node.decorator_list:
                        self.assertEqual(ast.unparse(decorator), "property", (name, node.name))

    def test_nodes(self):
        for name, tree in trees():
            for node in ast.walk(tree):
                self.assertNotIsInstance(node, NOT_ALLOWED, (name, getattr(node, "lineno", 0)))
                self.assertNotIsInstance(getattr(node, "op", None), (ast.Div, ast.MatMult))
                if isinstance(node, ast.Constant):
                    self.assertNotIsInstance(node.value, (float, complex))

    def test_imports(self):
        for name, tree in trees():
            at_the_top = [node for node in tree.body if isinstance(node, (ast.Import, ast.ImportFrom))]
            for node in ast.walk(tree):
                if isinstance(node, (ast.Import, ast.ImportFrom)):
                    self.assertIn(node, at_the_top, name)
                    self.assertIsInstance(node, ast.ImportFrom, name)
                    self.assertTrue(node.module.startswith("safeupto.") and node.level == 0, name)
                    self.assertNotIn("*", [one.name for one in node.names])

    def test_builtins(self):
        for name, tree in trees():
            for node in ast.walk(tree):
                if isinstance(node, ast.Name) and node.id in ALL_BUILTINS:
                    self.assertIsInstance(node.ctx, ast.Load, (name, node.id))
                    self.assertIn(node.id, BUILTINS, name)
                if isinstance(node, (ast.arg, ast.FunctionDef, ast.ClassDef)):
                    own = node.arg if isinstance(node, ast.arg) else node.name
                    self.assertNotIn(own, ALL_BUILTINS, name)

    def test_words(self):
        for name, tree in trees():
            docstrings = [node.body[0].value for node in ast.walk(tree)
                          if isinstance(node, (ast.Module, ast.ClassDef, ast.FunctionDef)) and ast.get_docstring(node)]
            for node in ast.walk(tree):
                if isinstance(node, ast.Constant) and isinstance(node.value, str) and node not in docstrings:
                    self.assertNotRegex(node.value, WORDS, name)
                    self.assertNotIn("%", node.value, name)
                if isinstance(node, ast.Name):
                    self.assertNotRegex(node.id, WORDS, name)

    def test_warnings(self):
        with warnings.catch_warnings():
            warnings.simplefilter("error")
            for path in FOLDER.glob("*.py"):
                compile(path.read_text("ascii"), str(path), "exec")


if __name__ == "__main__":
    unittest.main()
