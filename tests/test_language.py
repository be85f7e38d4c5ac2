"""The package keeps to the small part of Python it is written in, as far as a test can see."""

import ast
import builtins
import pathlib
import re
import unittest

PACKAGE = pathlib.Path(__file__).resolve().parent.parent / "rolehouse"
OWN_NAMES = set(
    "len range enumerate zip min max sum abs sorted reversed int str bool list tuple dict set frozenset isinstance ord repr any all"
    " divmod Exception ValueError TypeError KeyError IndexError LookupError ZeroDivisionError ArithmeticError OverflowError"
    " RuntimeError NotImplementedError AttributeError StopIteration".split()
)
OWN_METHODS = set(
    "append clear copy count endswith extend find get index insert isalnum isalpha isdigit islower isspace isupper items join keys"
    " ljust lower lstrip partition pop remove replace reverse rfind rjust rpartition rsplit rstrip setdefault split splitlines"
    " startswith strip update upper values zfill bit_length".split()
)
WORDS = re.compile(
    r"\b(type|typing|typing_extensions|enum|Enum|IntEnum|StrEnum|Flag|IntFlag|Generic|Protocol|ABC|ABCMeta|namedtuple|NamedTuple"
    r"|TypedDict|TYPE_CHECKING|abstractmethod)\b|dataclass|overload|contextmanager"
)
NODES = (
    ast.Module, ast.FunctionDef, ast.ClassDef, ast.arguments, ast.arg, ast.Assign, ast.AugAssign, ast.If, ast.While, ast.For,
    ast.Return, ast.Break, ast.Continue, ast.Pass, ast.Raise, ast.Try, ast.ExceptHandler, ast.Expr, ast.Call, ast.keyword,
    ast.ImportFrom, ast.alias, ast.Name, ast.Attribute, ast.Subscript, ast.Slice, ast.Constant, ast.List, ast.Tuple, ast.Dict,
    ast.BinOp, ast.UnaryOp, ast.BoolOp, ast.Compare, ast.IfExp, ast.ListComp, ast.comprehension, ast.JoinedStr, ast.FormattedValue,
    ast.expr_context, ast.boolop, ast.cmpop, ast.unaryop, ast.operator,
)


class LanguageTest(unittest.TestCase):
    def each_file(self):
        for path in sorted(PACKAGE.iterdir()):
            if path.name != "__pycache__":
                yield path, path.read_bytes().decode("ascii")

    def each_node(self):
        for path, text in self.each_file():
            for node in ast.walk(ast.parse(text)):
                yield path.name, node

    def test_files(self):
        for path, text in self.each_file():
            self.assertRegex(path.name, r"^[a-z0-9_]+\.py$")
            self.assertRegex(text, r"\A[ -~\n]*\Z")
            self.assertIsNone(WORDS.search(text), path.name)
            rows = text.split("\n")
            self.assertLessEqual(len(rows), 400)
            self.assertLessEqual(max(len(row) for row in rows), 120)

    def test_statements_and_expressions(self):
        for name, node in self.each_node():
            where = (name, getattr(node, "lineno", 0), node)
            self.assertIsInstance(node, NODES, where)
            if isinstance(node, ast.FunctionDef):
                self.assertLessEqual(node.end_lineno - node.lineno + 1, 40, where)
                self.assertFalse(node.decorator_list or node.args.vararg or node.args.kwarg or node.args.kwonlyargs, where)
            if isinstance(node, (ast.For, ast.While, ast.Try)):
                self.assertFalse(getattr(node, "finalbody", None), where)
                self.assertTrue(isinstance(node, ast.Try) or not node.orelse, where)
            if isinstance(node, ast.Assign):
                self.assertEqual(len(node.targets), 1, where)
                self.assertNotIsInstance(node.targets[0], (ast.Tuple, ast.List), where)
            if isinstance(node, ast.Constant):
                self.assertIsInstance(node.value, (int, str, type(None)), where)
            if isinstance(node, (ast.BinOp, ast.AugAssign)):
                self.assertNotIsInstance(node.op, (ast.Div, ast.MatMult, ast.Pow), where)
            if isinstance(node, ast.ListComp):
                self.assertEqual(len(node.generators), 1, where)
                self.assertLessEqual(len(node.generators[0].ifs), 1, where)

    def test_the_top_of_a_file(self):
        for path, text in self.each_file():
            for node in ast.parse(text).body[1:]:
                self.assertIsInstance(node, (ast.ImportFrom, ast.FunctionDef, ast.ClassDef, ast.Assign), path.name)
                if isinstance(node, ast.Assign):
                    ast.literal_eval(node.value)

    def test_imports(self):
        for name, node in self.each_node():
            if isinstance(node, ast.ImportFrom):
                self.assertEqual(node.level, 0, name)
                self.assertRegex(node.module, r"^rolehouse\.[a-z]+$")
                self.assertNotIn("*", [alias.name for alias in node.names])

    def test_names(self):
        for name, node in self.each_node():
            where = (name, getattr(node, "lineno", 0))
            bound = []
            if isinstance(node, ast.Name):
                if isinstance(node.ctx, ast.Store):
                    bound.append(node.id)
                elif hasattr(builtins, node.id):
                    self.assertIn(node.id, OWN_NAMES, where)
            if isinstance(node, ast.arg):
                bound.append(node.arg)
                self.assertIsNone(node.annotation, where)
            if isinstance(node, (ast.FunctionDef, ast.ClassDef)) and node.name != "__init__":
                bound.append(node.name)
            for word in bound:
                self.assertRegex(word, r"^[A-Za-z][A-Za-z0-9_]*$", where)
                self.assertFalse(hasattr(builtins, word), (where, word))

    def test_methods(self):
        methods, values, used = set(), set(), set()
        for name, node in self.each_node():
            if isinstance(node, ast.ClassDef):
                methods |= {item.name for item in node.body if isinstance(item, ast.FunctionDef)}
                self.assertTrue(all(isinstance(item, (ast.FunctionDef, ast.Pass)) for item in node.body), name)
            if isinstance(node, ast.Attribute):
                (values if isinstance(node.ctx, ast.Store) else used).add(node.attr)
        self.assertFalse(methods & values)
        self.assertFalse(used - methods - values - OWN_METHODS)
        for word in (methods | values) - {"__init__"}:
            self.assertFalse(any(hasattr(kind, word) for kind in (str, int, list, dict, set, bytes)), word)


if __name__ == "__main__":
    unittest.main()
