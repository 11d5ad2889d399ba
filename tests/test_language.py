"""The package keeps to its small part of Python (../shared/LANGUAGE.md), as far as a test can see it."""

import ast
import builtins
import pathlib
import re
import unittest

PACKAGE = pathlib.Path(__file__).resolve().parent.parent / "badnet"

STATEMENTS = (
    ast.FunctionDef, ast.ClassDef, ast.Return, ast.Assign, ast.AugAssign, ast.For, ast.While, ast.If, ast.Raise,
    ast.Try, ast.ImportFrom, ast.Expr, ast.Pass, ast.Break, ast.Continue)
EXPRESSIONS = (
    ast.BoolOp, ast.BinOp, ast.UnaryOp, ast.Lambda, ast.IfExp, ast.Dict, ast.ListComp, ast.Compare, ast.Call,
    ast.JoinedStr, ast.FormattedValue, ast.Constant, ast.Attribute, ast.Subscript, ast.Name, ast.List, ast.Tuple,
    ast.Slice)
OWN_NAMES = set((
    "len range enumerate zip min max sum abs sorted reversed int str bool list tuple dict set frozenset isinstance "
    "ord repr any all divmod Exception ValueError TypeError KeyError IndexError LookupError ZeroDivisionError "
    "ArithmeticError OverflowError RuntimeError NotImplementedError AttributeError StopIteration").split())
OWN_METHODS = set((
    "append clear copy count endswith extend find get index insert isalnum isalpha isdigit islower isspace isupper "
    "items join keys ljust lower lstrip partition pop remove replace reverse rfind rjust rpartition rsplit rstrip "
    "setdefault split splitlines startswith strip update upper values zfill bit_length").split())
KEPT_OUT = (
    "type typing typing_extensions enum Enum IntEnum StrEnum Flag IntFlag Generic Protocol ABC ABCMeta namedtuple "
    "NamedTuple TypedDict TYPE_CHECKING abstractmethod").split()
NOT_NAMES = set((
    "register mro elements open input version_info with_traceback add_note attrgetter breakpoint builtins compile "
    "copyright credits delattr dir eval exec exit gc getattr globals hasattr help id importlib license locals "
    "methodcaller os quit setattr super type vars sys").split())
NOT_VALUES = set("items keys values pop update append clear extend insert remove reverse setdefault sort args "
                 "encode format".split())
UNDERSCORED = {"__init__", "__eq__", "__repr__", "__str__", "__len__"}


def files():
    return sorted(PACKAGE.rglob("*.py"))


def methods_and_values():
    methods, values = set(), set()
    for path in files():
        for node in ast.walk(ast.parse(path.read_text())):
            if isinstance(node, ast.ClassDef):
                methods |= {part.name for part in node.body if isinstance(part, ast.FunctionDef)}
            if isinstance(node, ast.Attribute) and isinstance(node.ctx, ast.Store):
                values.add(node.attr)
    return methods, values


class Language(unittest.TestCase):
    def each_node(self):
        for path in files():
            for node in ast.walk(ast.parse(path.read_text())):
                yield node, f"{path.name}:{getattr(node, 'lineno', 0)}"

    def test_only_plain_files(self):
        left = [path for path in PACKAGE.rglob("*") if "__pycache__" not in path.parts and path.suffix != ".py"]
        self.assertEqual(left, [])
        for path in files():
            self.assertRegex(path.stem, r"^(__init__|__main__|[a-z][a-z0-9_]*)$")
            self.assertNotIn(path.stem, set(dir(builtins)))
        self.assertIn(PACKAGE / "__init__.py", files())

    def test_sizes_and_signs(self):
        for path in files():
            rows = path.read_text().split("\n")
            self.assertLessEqual(len(rows), 400, path.name)
            for number, row in enumerate(rows, 1):
                self.assertLessEqual(len(row), 120, f"{path.name}:{number}")
                self.assertRegex(row, r"^[ -~]*$", f"{path.name}:{number}")
                for word in re.findall(r"\w+", row):
                    self.assertNotIn(word, KEPT_OUT, f"{path.name}:{number}")
                self.assertNotRegex(row, "dataclass|overload|contextmanager", f"{path.name}:{number}")

    def test_statements_and_expressions(self):
        for node, where in self.each_node():
            if isinstance(node, ast.stmt):
                self.assertIsInstance(node, STATEMENTS, where)
            if isinstance(node, ast.expr):
                self.assertIsInstance(node, EXPRESSIONS, where)
            if isinstance(node, (ast.For, ast.While)):
                self.assertEqual(node.orelse, [], where)
            if isinstance(node, ast.Assign):
                self.assertEqual(len(node.targets), 1, where)
            if isinstance(node, (ast.Div, ast.MatMult)):
                self.fail(where)
            if isinstance(node, ast.Constant):
                self.assertIn(type(node.value), (int, str, bool, type(None)), where)
            if isinstance(node, ast.ListComp):
                self.assertEqual(len(node.generators), 1, where)
                self.assertLessEqual(len(node.generators[0].ifs), 1, where)

    def test_functions(self):
        for node, where in self.each_node():
            if not isinstance(node, ast.FunctionDef):
                continue
            self.assertLessEqual(node.end_lineno - node.lineno + 1, 40, where)
            self.assertEqual(node.decorator_list, [], where)
            given = node.args
            self.assertEqual([given.vararg, given.kwarg, given.kwonlyargs, given.posonlyargs], [None, None, [], []])
            for parameter in given.args:
                self.assertNotIn(parameter.arg, dir(builtins), where)

    def test_classes(self):
        for node, where in self.each_node():
            if isinstance(node, ast.ClassDef):
                self.assertEqual(node.decorator_list, [], where)
                self.assertLessEqual(len(node.bases), 1, where)
                names = [part.name for part in node.body if isinstance(part, ast.FunctionDef)]
                self.assertEqual(len(names), len(set(names)), where)
                for part in node.body:
                    self.assertIsInstance(part, (ast.FunctionDef, ast.Expr), where)

    def test_methods_and_values_have_names_of_their_own(self):
        methods, values = methods_and_values()
        self.assertEqual(methods & values, set())
        self.assertEqual(values & NOT_VALUES, set())

    def test_names(self):
        methods, values = methods_and_values()
        for node, where in self.each_node():
            if isinstance(node, ast.Name):
                self.assertNotIn(node.id, NOT_NAMES, where)
                self.assertFalse(node.id.startswith("_"), where)
                if isinstance(node.ctx, ast.Store):
                    self.assertNotIn(node.id, dir(builtins), where)
                elif node.id in dir(builtins):
                    self.assertIn(node.id, OWN_NAMES, where)
            if isinstance(node, ast.Attribute):
                self.assertIn(node.attr, methods | values | OWN_METHODS, where)
                self.assertNotIn(node.attr, NOT_NAMES, where)
            if isinstance(node, (ast.FunctionDef, ast.ClassDef)) and node.name.startswith("_"):
                self.assertIn(node.name, UNDERSCORED, where)

    def test_imports(self):
        for node, where in self.each_node():
            if isinstance(node, ast.ImportFrom):
                self.assertEqual(node.level, 0, where)
                self.assertRegex(node.module, r"^badnet\.", where)
                self.assertNotIn("*", [alias.name for alias in node.names], where)

    def test_the_top_of_a_file(self):
        for path in files():
            bound = []
            for node in ast.parse(path.read_text()).body:
                self.assertIsInstance(node, (ast.Expr, ast.ImportFrom, ast.FunctionDef, ast.ClassDef, ast.Assign))
                if isinstance(node, ast.Expr):
                    self.assertIsInstance(node.value, ast.Constant, path.name)
                if isinstance(node, ast.Assign):
                    bound.append(node.targets[0].id)
                    ast.literal_eval(node.value)
                if isinstance(node, (ast.FunctionDef, ast.ClassDef)):
                    bound.append(node.name)
            self.assertEqual(len(bound), len(set(bound)), path.name)


if __name__ == "__main__":
    unittest.main()
