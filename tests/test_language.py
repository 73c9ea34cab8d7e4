"""The files of the package keep to the rules of the language that can be looked at simply."""

import ast
import builtins
import pathlib
import re
import unittest
import warnings

FOLDER = pathlib.Path(__file__).resolve().parent.parent / "safeupto"
BUILTINS = set("""
    len range enumerate zip min max sum abs sorted reversed int str bool bytes list tuple dict set frozenset isinstance
    ord repr any all divmod pow Exception ValueError TypeError KeyError IndexError LookupError ZeroDivisionError
    ArithmeticError OverflowError RuntimeError NotImplementedError AttributeError StopIteration NotImplemented property
    object""".split())
ALL_BUILTINS = set(dir(builtins))
WORDS = re.compile(r"\b(type|typing|typing_extensions|enum|Enum|IntEnum|StrEnum|Flag|IntFlag|Generic|Protocol|ABC"
                   r"|ABCMeta|namedtuple|NamedTuple|TypedDict|TYPE_CHECKING|abstractmethod)\b")
LIBRARY = {"math": {"gcd"}, "heapq": {"heappush", "heappop"}}
METHODS = set("""
    append clear copy count endswith extend find get index insert isalnum isalpha isdigit islower isspace isupper items
    join keys ljust lower lstrip partition pop remove replace reverse rfind rjust rpartition rsplit rstrip setdefault split
    splitlines startswith strip update upper values zfill bit_length removeprefix removesuffix isascii add discard
    """.split())
FORBIDDEN_ATTRIBUTES = set("""
    items keys values pop update append clear extend insert remove reverse setdefault sort args encode decode hex fromhex
    format""".split())
AT_ONCE = {"zip", "enumerate", "reversed", "range"}
ITERATING = {"list", "tuple", "dict", "sorted", "sum", "any", "all", "min", "max"}
# How no name begins, and which ones none is, also not with digits or underscores after them (L12).
BARRED = re.compile(r"_wall|_pe_|_dcw_|_enum_|_cm_|_twin_re_|_lay_|_law_|_stub_|_sre|_WallAttr"
                    r"|(_cold|_tuplegetter|_outside|_record|_written_out|_member_names)[0-9_]*$")
NOT_ALLOWED = (ast.AsyncFunctionDef, ast.Global, ast.Await, ast.GeneratorExp, ast.NamedExpr, ast.AnnAssign)


def trees():
    for path in sorted(FOLDER.glob("*.py")):
        yield path.name, ast.parse(path.read_text("utf-8"))


class Language(unittest.TestCase):

    def test_files(self):
        for path in FOLDER.iterdir():
            if path.name != "__pycache__":
                self.assertRegex(path.name, r"^[a-z0-9_]+\.py$")

    def test_lines(self):
        for path in FOLDER.glob("*.py"):
            text = path.read_bytes()
            self.assertTrue(all(byte == 10 or 32 <= byte <= 126 for byte in text), path.name)
            lines = text.decode("ascii").split("\n")
            self.assertLessEqual(len(lines), 399, path.name)
            self.assertLessEqual(max(len(line) for line in lines), 120, path.name)

    def test_functions(self):
        for name, tree in trees():
            for node in ast.walk(tree):
                if isinstance(node, ast.FunctionDef):
                    self.assertLessEqual(node.end_lineno - node.lineno + 1, 40, (name, node.name))
                    for decorator in node.decorator_list:
                        self.assertEqual(ast.unparse(decorator), "property", (name, node.name))

    def test_nodes(self):
        for name, tree in trees():
            for node in ast.walk(tree):
                self.assertNotIsInstance(node, NOT_ALLOWED, (name, getattr(node, "lineno", 0)))
                self.assertNotIsInstance(getattr(node, "op", None), (ast.Div, ast.MatMult))
                if isinstance(node, ast.Constant):
                    self.assertNotIsInstance(node.value, (float, complex))

    def test_imports(self):
        for name, tree in trees():
            at_the_top = [node for node in tree.body if isinstance(node, (ast.Import, ast.ImportFrom))]
            for node in ast.walk(tree):
                if isinstance(node, (ast.Import, ast.ImportFrom)):
                    self.assertIn(node, at_the_top, name)
                    self.assertIsInstance(node, ast.ImportFrom, name)
                    names = [one.name for one in node.names]
                    if node.module in LIBRARY:
                        self.assertLessEqual(set(names), LIBRARY[node.module], name)
                    else:
                        self.assertTrue(node.module.startswith("safeupto.") and node.level == 0, name)
                    self.assertNotIn("*", names)

    def test_no_circles_of_imports(self):
        needs = {name[:-3]: {node.module.split(".")[1] for node in ast.walk(tree) if isinstance(node, ast.ImportFrom)
                             and node.module.startswith("safeupto.")} for name, tree in trees()}
        while needs:
            free = {name for name in needs if not needs[name] & set(needs)}
            self.assertTrue(free, needs)
            needs = {name: needs[name] for name in needs if name not in free}

    def test_names_stand_for_one_thing(self):
        properties, methods, attributes, values = set(), set(), set(), set()
        for name, tree in trees():
            for node in ast.walk(tree):
                if isinstance(node, ast.ClassDef):
                    for one in node.body:
                        if isinstance(one, ast.FunctionDef):
                            (properties if one.decorator_list else methods).add(one.name)
                if isinstance(node, ast.Attribute) and isinstance(node.ctx, ast.Store):
                    attributes.add(node.attr)
                if isinstance(node, ast.FunctionDef):
                    values.add(node.name)
        self.assertEqual(properties & methods, set())
        self.assertEqual(properties & attributes, set())
        self.assertEqual({name for name in methods & attributes if not name.startswith("_")}, set())
        self.assertEqual(attributes & FORBIDDEN_ATTRIBUTES, set())

    def test_imports_and_classes_are_not_named_again(self):
        for name, tree in trees():
            taken = {one.asname or one.name for node in tree.body if isinstance(node, ast.ImportFrom) for one in node.names}
            taken |= {node.name for node in tree.body if isinstance(node, ast.ClassDef)}
            for node in ast.walk(tree):
                if isinstance(node, ast.Name) and isinstance(node.ctx, ast.Store):
                    self.assertNotIn(node.id, taken, name)
                if isinstance(node, ast.arg):
                    self.assertNotIn(node.arg, taken, name)
            bound = [node.name for node in tree.body if isinstance(node, (ast.FunctionDef, ast.ClassDef))]
            self.assertEqual(len(bound + sorted(taken)) - len([one for one in bound if one in taken]),
                             len(set(bound) | taken), name)

    def test_builtin_methods(self):
        own = {node.name for _, tree in trees() for node in ast.walk(tree) if isinstance(node, ast.FunctionDef)}
        for name, tree in trees():
            for node in ast.walk(tree):
                if isinstance(node, ast.Call) and isinstance(node.func, ast.Attribute):
                    self.assertIn(node.func.attr, own | METHODS, (name, node.lineno))
                    self.assertFalse(node.keywords and node.func.attr in METHODS, (name, node.lineno))

    def test_iterated_at_once(self):
        for name, tree in trees():
            for node in ast.walk(tree):
                for value in ast.iter_child_nodes(node):
                    if isinstance(value, ast.Call) and isinstance(value.func, ast.Name) and value.func.id in AT_ONCE:
                        where = (isinstance(node, (ast.For, ast.comprehension)) and node.iter is value) or (
                            isinstance(node, ast.Call) and isinstance(node.func, ast.Name)
                            and node.func.id in ITERATING | AT_ONCE)
                        self.assertTrue(where, (name, value.lineno, value.func.id))

    def test_exponents(self):
        for name, tree in trees():
            for node in ast.walk(tree):
                if isinstance(node, ast.BinOp) and isinstance(node.op, ast.Pow):
                    self.assertIsInstance(node.right, ast.Constant, name)
                    self.assertLessEqual(node.right.value, 64, name)
                if isinstance(node, ast.Compare) and any(isinstance(op, (ast.Is, ast.IsNot)) for op in node.ops):
                    self.assertIsInstance(node.comparators[0], ast.Constant, (name, node.lineno))

    def test_builtins(self):
        for name, tree in trees():
            for node in ast.walk(tree):
                if isinstance(node, ast.Name) and node.id in ALL_BUILTINS:
                    self.assertIsInstance(node.ctx, ast.Load, (name, node.id))
                    self.assertIn(node.id, BUILTINS, name)
                if isinstance(node, (ast.arg, ast.FunctionDef, ast.ClassDef)):
                    own = node.arg if isinstance(node, ast.arg) else node.name
                    self.assertNotIn(own, ALL_BUILTINS, name)

    def test_words(self):
        for name, tree in trees():
            docstrings = [node.body[0].value for node in ast.walk(tree)
                          if isinstance(node, (ast.Module, ast.ClassDef, ast.FunctionDef)) and ast.get_docstring(node)]
            for node in ast.walk(tree):
                if isinstance(node, ast.Constant) and isinstance(node.value, str) and node not in docstrings:
                    self.assertNotRegex(node.value, WORDS, name)
                    self.assertNotIn("%", node.value, name)
                if isinstance(node, ast.Name):
                    self.assertNotRegex(node.id, WORDS, name)

    def test_plain_names(self):
        for name, tree in trees():
            found = set()
            for node in ast.walk(tree):
                found |= {one for one in (getattr(node, "id", None), getattr(node, "attr", None), getattr(node, "arg", None),
                                          getattr(node, "name", None)) if isinstance(one, str)}
            for one in found:
                if not re.fullmatch("__[a-z]+__", one):
                    self.assertRegex(one, r"^(_|_?[A-Za-z][A-Za-z0-9_]*)$", name)
                    self.assertNotRegex(one, f"^({BARRED.pattern})", name)

    def test_warnings(self):
        with warnings.catch_warnings():
            warnings.simplefilter("error")
            for path in FOLDER.glob("*.py"):
                compile(path.read_text("ascii"), str(path), "exec")


if __name__ == "__main__":
    unittest.main()
