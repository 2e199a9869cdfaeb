"""The form of the package's own files, as far as it can be seen without running them."""

import ast
import builtins
import pathlib
import re
import unittest

FOLDER = pathlib.Path(__file__).resolve().parent.parent / "callstrings"

STATEMENTS = (
    ast.Assign, ast.AugAssign, ast.If, ast.While, ast.For, ast.Return, ast.Break, ast.Continue, ast.Pass, ast.Raise,
    ast.Try, ast.Expr, ast.FunctionDef, ast.ClassDef, ast.ImportFrom,
)
NEVER = (
    ast.GeneratorExp, ast.SetComp, ast.DictComp, ast.NamedExpr, ast.Starred, ast.Await, ast.Yield, ast.YieldFrom,
    ast.Div, ast.MatMult, ast.AnnAssign, ast.Set,
)
BUILT_IN = """len range enumerate zip min max sum abs sorted reversed int str bool list tuple dict set frozenset isinstance
ord repr any all divmod Exception ValueError TypeError KeyError IndexError LookupError ZeroDivisionError ArithmeticError
OverflowError RuntimeError NotImplementedError AttributeError StopIteration""".split()
METHODS = """append clear copy count endswith extend find get index insert isalnum isalpha isdigit islower isspace isupper
items join keys ljust lower lstrip partition pop remove replace reverse rfind rjust rpartition rsplit rstrip setdefault
split splitlines startswith strip update upper values zfill bit_length""".split()
WORDS = """type typing typing_extensions enum Enum IntEnum StrEnum Flag IntFlag Generic Protocol ABC ABCMeta namedtuple
NamedTuple TypedDict TYPE_CHECKING abstractmethod""".split()
UNUSED = """register mro elements open input version_info with_traceback add_note attrgetter breakpoint builtins compile
copyright credits delattr dir eval exec exit gc getattr globals hasattr help id importlib license locals methodcaller os
quit setattr super vars sys""".split()
OWN_VALUES = (str, int, list, dict, set, frozenset, bytes, tuple)


def files():
    return sorted(FOLDER.glob("*.py"))


def trees():
    return [(path.name, ast.parse(path.read_text("utf-8"))) for path in files()]


def bound_names(tree):
    """Names of functions, classes, parameters and locals."""
    names = []
    for node in ast.walk(tree):
        if isinstance(node, (ast.FunctionDef, ast.ClassDef)):
            names.append(node.name)
        elif isinstance(node, ast.arg):
            names.append(node.arg)
        elif isinstance(node, ast.Name) and isinstance(node.ctx, ast.Store):
            names.append(node.id)
    return names


class Signs(unittest.TestCase):
    def test_the_folder(self):
        names = [path.name for path in FOLDER.iterdir() if path.name != "__pycache__"]
        self.assertIn("__init__.py", names)
        self.assertIn("tables.py", names)
        for name in names:
            self.assertRegex(name, r"^[a-z_0-9]+\.py$")

    def test_rows(self):
        for path in files():
            text = path.read_text("utf-8")
            self.assertLessEqual(text.count("\n"), 400, path.name)
            for row in text.split("\n"):
                self.assertLessEqual(len(row), 120, path.name)
                self.assertRegex(row, r"^[ -~]*$", path.name)

    def test_words(self):
        for path in files():
            words = re.findall(r"\w+", path.read_text("utf-8"))
            self.assertEqual([word for word in words if word in WORDS], [], path.name)
            self.assertEqual([word for word in words if re.search("dataclass|overload|contextmanager", word)], [])


class Code(unittest.TestCase):
    def test_statements(self):
        for name, tree in trees():
            for node in ast.walk(tree):
                where = (name, getattr(node, "lineno", 0))
                if isinstance(node, ast.stmt):
                    self.assertIsInstance(node, STATEMENTS, where)
                self.assertNotIsInstance(node, NEVER, where)
                self.assert_plain(node, where)

    def assert_plain(self, node, where):
        if isinstance(node, ast.Assign):
            self.assertEqual(len(node.targets), 1, where)
            self.assertNotIsInstance(node.targets[0], (ast.Tuple, ast.List), where)
        if isinstance(node, (ast.For, ast.While)):
            self.assertEqual(node.orelse, [], where)
        if isinstance(node, ast.Try):
            self.assertEqual(node.finalbody, [], where)
        if isinstance(node, (ast.FunctionDef, ast.ClassDef)):
            self.assertEqual(node.decorator_list, [], where)
        if isinstance(node, ast.FunctionDef):
            self.assertLessEqual(node.end_lineno - node.lineno, 39, where)
        if isinstance(node, ast.Expr) and not isinstance(node.value, ast.Call):
            self.assertIsInstance(node.value, ast.Constant, where)
            self.assertEqual(where[1], 1, where)
        if isinstance(node, ast.Constant):
            self.assertNotIsInstance(node.value, (float, bytes, complex), where)
            self.assertFalse(isinstance(node.value, str) and "%" in node.value, where)
        if isinstance(node, ast.Compare):
            for sign, side in zip(node.ops, node.comparators):
                if isinstance(sign, (ast.Is, ast.IsNot)):
                    self.assertIn(ast.unparse(side), ("None", "True", "False"), where)

    def test_imports(self):
        for name, tree in trees():
            own = [path.stem for path in files() if path.name != name]
            for node in ast.walk(tree):
                if isinstance(node, ast.ImportFrom):
                    self.assertEqual(node.level, 0)
                    self.assertIn(node.module, ["callstrings." + one for one in own])
                    self.assertTrue(all(one.asname is None and one.name != "*" for one in node.names))

    def test_names(self):
        for name, tree in trees():
            for one in bound_names(tree):
                self.assertRegex(one, r"^([A-Za-z][A-Za-z0-9_]*|__init__)$", name)
                self.assertNotIn(one, dir(builtins), name)
                self.assertNotIn(one, UNUSED, name)

    def test_names_of_pythons_own(self):
        for name, tree in trees():
            for node in ast.walk(tree):
                if isinstance(node, ast.Name) and node.id in dir(builtins):
                    self.assertIn(node.id, BUILT_IN, (name, node.lineno))

    def test_methods(self):
        own = [node.name for _, tree in trees() for node in ast.walk(tree) if isinstance(node, ast.FunctionDef)]
        for name, tree in trees():
            for node in ast.walk(tree):
                if isinstance(node, ast.Call) and isinstance(node.func, ast.Attribute):
                    self.assertIn(node.func.attr, own + METHODS, (name, node.lineno))

    def test_methods_and_values_are_apart(self):
        methods, values = set(), set()
        for _, tree in trees():
            for group in [node for node in ast.walk(tree) if isinstance(node, ast.ClassDef)]:
                methods.update([one.name for one in group.body if isinstance(one, ast.FunctionDef)])
            values.update([node.attr for node in ast.walk(tree)
                           if isinstance(node, ast.Attribute) and isinstance(node.ctx, ast.Store)])
        self.assertEqual(methods & values, set())
        taken = {one for kind in OWN_VALUES for one in dir(kind)} - {"__init__"}
        self.assertEqual((methods | values) & taken, set())


if __name__ == "__main__":
    unittest.main()
