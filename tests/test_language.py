"""Holds the package to the rules of its part of Python that can be seen in the source."""

import ast
import builtins
import pathlib
import re
import unittest

PACKAGE = pathlib.Path(__file__).resolve().parent.parent / "jobyard"

ERRORS = """Exception ValueError TypeError KeyError IndexError LookupError ZeroDivisionError ArithmeticError
OverflowError RuntimeError NotImplementedError AttributeError StopIteration""".split()
BUILTINS = """len range enumerate zip min max sum abs sorted reversed int str bool list tuple dict set frozenset
isinstance ord repr any all divmod""".split() + ERRORS
METHODS = """append clear copy count endswith extend find get index insert isalnum isalpha isdigit islower isspace
isupper items join keys ljust lower lstrip partition pop remove replace reverse rfind rjust rpartition rsplit rstrip
setdefault split splitlines startswith strip update upper values zfill bit_length""".split()
TWO_UNDERSCORES = "__init__ __eq__ __repr__ __str__ __len__".split()
WORDS = """type typing typing_extensions enum Enum IntEnum StrEnum Flag IntFlag Generic Protocol ABC ABCMeta
namedtuple NamedTuple TypedDict TYPE_CHECKING abstractmethod register mro elements open input version_info
with_traceback add_note""".split()
NOT_AS_NAMES = """attrgetter breakpoint builtins compile copyright credits delattr dir eval exec exit gc getattr globals
hasattr help id importlib license locals methodcaller os quit setattr super vars sys print format format_map""".split()
NODES = """Module FunctionDef ClassDef ImportFrom alias arguments arg Assign AugAssign If While For Return Break
Continue Pass Raise Try ExceptHandler Expr Call Name Load Store Constant List Tuple Dict Set UnaryOp BinOp BoolOp
Compare IfExp Attribute Subscript Slice ListComp comprehension JoinedStr FormattedValue Lambda keyword Add Sub Mult
FloorDiv Mod Pow BitAnd BitOr BitXor LShift RShift Invert Not USub And Or Eq NotEq Lt LtE Gt GtE Is IsNot In
NotIn""".split()


def sources():
    return [(path, path.read_text(encoding="utf-8")) for path in sorted(PACKAGE.rglob("*.py"))]


def nodes_of(*kinds):
    for path, text in sources():
        for node in ast.walk(ast.parse(text)):
            if isinstance(node, kinds):
                yield f"{path.name}:{getattr(node, 'lineno', 0)}", node


def bound_names():
    for where, node in nodes_of(ast.Name, ast.arg, ast.FunctionDef, ast.ClassDef, ast.Attribute):
        if isinstance(node, ast.arg):
            yield where, node.arg
        elif isinstance(node, (ast.FunctionDef, ast.ClassDef)):
            yield where, node.name
        elif isinstance(node.ctx, ast.Store):
            yield where, node.id if isinstance(node, ast.Name) else node.attr


class LanguageTest(unittest.TestCase):
    def test_the_package_holds_python_files_alone(self):
        for path in PACKAGE.rglob("*"):
            if path.name != "__pycache__" and path.parent.name != "__pycache__":
                self.assertRegex(path.name, r"^([a-z][a-z0-9_]*|__init__|__main__)\.py$")

    def test_signs_and_sizes(self):
        for path, text in sources():
            rows = text.split("\n")
            self.assertLessEqual(len(rows), 401, path)
            self.assertRegex(text, r"\A[ -~\n]*\Z", path)
            for number, row in enumerate(rows, start=1):
                self.assertLessEqual(len(row), 120, f"{path.name}:{number}")
        for where, node in nodes_of(ast.FunctionDef):
            self.assertLessEqual(node.end_lineno - node.lineno + 1, 40, where)

    def test_words_that_stand_nowhere(self):
        for path, text in sources():
            found = set(re.findall(r"\w+", text)) & set(WORDS)
            self.assertEqual(found, set(), path)
            self.assertNotRegex(text, "dataclass|overload|contextmanager", path)

    def test_imports_are_of_the_package_alone(self):
        for where, node in nodes_of(ast.Import, ast.ImportFrom):
            self.assertIsInstance(node, ast.ImportFrom, where)
            self.assertRegex(node.module or "", r"^jobyard\.[a-z0-9_.]+$", where)
            self.assertEqual(node.level, 0, where)
            self.assertTrue(all(name.name != "*" and name.asname is None for name in node.names), where)

    def test_forms(self):
        for where, node in nodes_of(ast.AST):
            self.assertIn(type(node).__name__, NODES, where)
            self.assertFalse(getattr(node, "decorator_list", []), where)
            if isinstance(node, ast.Assign):
                self.assertEqual(len(node.targets), 1, where)
            if isinstance(node, (ast.For, ast.While)):
                self.assertEqual(node.orelse, [], where)
            if isinstance(node, ast.Try):
                self.assertEqual(node.finalbody, [], where)
            if isinstance(node, ast.arguments):
                self.assertFalse(node.vararg or node.kwarg or node.kwonlyargs or node.posonlyargs, where)
            if isinstance(node, ast.Constant):
                self.assertIn(type(node.value), (int, str, bool, type(None)), where)
            if isinstance(node, ast.ClassDef):
                self.assertTrue(all(isinstance(x, (ast.FunctionDef, ast.Pass)) for x in node.body), where)

    def test_a_statement_by_itself_is_a_call(self):
        for path, text in sources():
            module = ast.parse(text)
            for node in ast.walk(module):
                if isinstance(node, ast.Expr) and node != module.body[0]:
                    self.assertIsInstance(node.value, ast.Call, f"{path.name}:{node.lineno}")

    def test_is_stands_beside_none_true_and_false_alone(self):
        for where, node in nodes_of(ast.Compare):
            if any(isinstance(sign, (ast.Is, ast.IsNot)) for sign in node.ops):
                sides = [node.left] + node.comparators
                self.assertTrue(any(isinstance(side, ast.Constant) for side in sides), where)

    def test_names_of_pythons_own(self):
        for where, node in nodes_of(ast.Name):
            self.assertNotIn(node.id, NOT_AS_NAMES, where)
            if node.id in dir(builtins):
                self.assertIn(node.id, BUILTINS, where)

    def test_bound_names_are_plain_and_not_pythons_own(self):
        for where, name in bound_names():
            if name not in TWO_UNDERSCORES:
                self.assertRegex(name, r"^[A-Za-z][A-Za-z0-9_]*$", where)
                self.assertNotIn(name, dir(builtins), where)

    def test_methods(self):
        own = [node.name for _, node in nodes_of(ast.FunctionDef)]
        for where, node in nodes_of(ast.Call):
            if isinstance(node.func, ast.Attribute):
                self.assertIn(node.func.attr, METHODS + own, where)

    def test_no_name_is_a_method_and_a_value(self):
        methods = {x.name for _, node in nodes_of(ast.ClassDef) for x in node.body if isinstance(x, ast.FunctionDef)}
        values = {node.attr for _, node in nodes_of(ast.Attribute) if isinstance(node.ctx, ast.Store)}
        self.assertEqual(methods & values, set())


if __name__ == "__main__":
    unittest.main()
