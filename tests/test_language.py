"""The package keeps to the small part of Python it is written in, as far as a test can see."""

import ast
import builtins
import pathlib
import re
import unittest

PACKAGE = pathlib.Path(__file__).resolve().parent.parent / "rolehouse"
OWN_NAMES = set(
    "len range enumerate zip min max sum abs sorted reversed int str bool list tuple dict set frozenset isinstance ord repr any all"
    " divmod Exception ValueError TypeError KeyError IndexError LookupError ZeroDivisionError ArithmeticError OverflowError"
    " RuntimeError NotImplementedError AttributeError StopIteration".split()
)
OWN_METHODS = set(
    "append clear copy count endswith extend find get index insert isalnum isalpha isdigit islower isspace isupper items join keys"
    " ljust lower lstrip partition pop remove replace reverse rfind rjust rpartition rsplit rstrip setdefault split splitlines"
    " startswith strip update upper values zfill bit_length".split()
)
WORDS = re.compile(
    r"\b(type|typing|typing_extensions|enum|Enum|IntEnum|StrEnum|Flag|IntFlag|Generic|Protocol|ABC|ABCMeta|namedtuple|NamedTuple"
    r"|TypedDict|TYPE_CHECKING|abstractmethod)\b|dataclass|overload|contextmanager"
)
NODES = (
    ast.Module, ast.FunctionDef, ast.ClassDef, ast.arguments, ast.arg, ast.Assign, ast.AugAssign, ast.If, ast.While, ast.For,
    ast.Return, ast.Break, ast.Continue, ast.Pass, ast.Raise, ast.Try, ast.ExceptHandler, ast.Expr, ast.Call, ast.keyword,
    ast.ImportFrom, ast.alias, ast.Name, ast.Attribute, ast.Subscript, ast.Slice, ast.Constant, ast.List, ast.Tuple, ast.Dict,
    ast.BinOp, ast.UnaryOp, ast.BoolOp, ast.Compare, ast.IfExp, ast.ListComp, ast.comprehension, ast.JoinedStr, ast.FormattedValue,
    ast.expr_context, ast.boolop, ast.cmpop, ast.unaryop, ast.operator,
)


class LanguageTest(unittest.TestCase):
    def each_file(self):
        for path in sorted(PACKAGE.iterdir()):
            if path.name != "__pycache__":
                yield path, path.read_bytes().decode("ascii")

    def each_node(self):
        for path, text in self.each_file():
            for node in ast.walk(ast.parse(text)):
                yield path.name, node

    def test_files(self):
        for path, text in self.each_file():
            self.assertRegex(path.name, r"^[a-z0-9_]+\.py$")
            self.assertRegex(text, r"\A[ -~\n]*\Z")
            self.assertIsNone(WORDS.search(text), path.name)
            rows = text.split("\n")
            self.assertLessEqual(len(rows), 400)
            self.assertLessEqual(max(len(row) for row in rows), 120)

    def test_statements_and_expressions(self):
        for name, node in self.each_node():
            where = (name, getattr(node, "lineno", 0), node)
            self.assertIsInstance(node, NODES, where)
            if isinstance(node, ast.FunctionDef):
                self.assertLessEqual(node.end_lineno - node.lineno + 1, 40, where)
                self.assertFalse(node.decorator_list or node.args.vararg or node.args.kwarg or node.args.kwonlyargs, where)
            if isinstance(node, (ast.For, ast.While, ast.Try)):
                self.assertFalse(getattr(node, "finalbody", None), where)
                self.assertTrue(isinstance(node, ast.Try) or not node.orelse, where)
            if isinstance(node, ast.Assign):
                self.assertEqual(len(node.targets), 1, where)
                self.assertNotIsInstance(node.targets[0], (ast.Tuple, ast.List), where)
            if isinstance(node, ast.Constant):
                self.assertIsInstance(node.value, (int, str, type(None)), where)
            if isinstance(node, (ast.BinOp, ast.AugAssign)):
                self.assertNotIsInstance(node.op, (ast.Div, ast.MatMult, ast.Pow), where)
            if isinstance(node, ast.ListComp):
                self.assertEqual(len(node.generators), 1, where)
                self.assertLessEqual(len(node.generators[0].ifs), 1, where)

    def test_the_top_of_a_file(self):
        for path, text in self.each_file():
            for node in ast.parse(text).body[1:]:
                self.assertIsInstance(node, (ast.ImportFrom, ast.FunctionDef, ast.ClassDef, ast.Assign), path.name)
                if isinstance(node, ast.Assign):
                    ast.literal_eval(node.value)

    def test_imports(self):
        for name, node in self.each_node():
            if isinstance(node, ast.ImportFrom):
                self.assertEqual(node.level, 0, name)
                self.assertRegex(node.module, r"^rolehouse\.[a-z]+$")
                self.assertNotIn("*", [alias.name for alias in node.names])

    def test_names(self):
        for name, node in self.each_node():
            where = (name, getattr(node, "lineno", 0))
            bound = []
            if isinstance(node, ast.Name):
                if isinstance(node.ctx, ast.Store):
                    bound.append(node.id)
                elif hasattr(builtins, node.id):
                    self.assertIn(node.id, OWN_NAMES, where)
            if isinstance(node, ast.arg):
                bound.append(node.arg)
                self.assertIsNone(node.annotation, where)
            if isinstance(node, (ast.FunctionDef, ast.ClassDef)) and node.name != "__init__":
                bound.append(node.name)
            for word in bound:
                self.assertRegex(word, r"^[A-Za-z][A-Za-z0-9_]*$", where)
                self.assertFalse(hasattr(builtins, word), (where, word))

    def test_imports_come_from_where_the_name_stands_and_in_no_ring(self):
        drawn = {}
        for path, text in self.each_file():
            tree = ast.parse(text)
            imports = [node for node in tree.body if isinstance(node, ast.ImportFrom)]
            drawn[path.stem] = {node.module.split(".")[1] for node in imports}
            for node in imports:
                other = ast.parse((PACKAGE / (node.module.split(".")[1] + ".py")).read_text())
                there = {getattr(item, "name", None) for item in other.body}
                there |= {item.targets[0].id for item in other.body if isinstance(item, ast.Assign)}
                self.assertLessEqual({alias.name for alias in node.names}, there, path.name)
        while drawn:
            free = [name for name in drawn if not drawn[name] & set(drawn)]
            self.assertTrue(free, drawn)
            drawn = {name: others for name, others in drawn.items() if name not in free}

    def test_names_of_the_top_are_bound_once(self):
        for path, text in self.each_file():
            tree = ast.parse(text)
            top = [item.name for item in tree.body if isinstance(item, (ast.FunctionDef, ast.ClassDef))]
            top += [item.targets[0].id for item in tree.body if isinstance(item, ast.Assign)]
            top += [alias.name for item in tree.body if isinstance(item, ast.ImportFrom) for alias in item.names]
            self.assertEqual(len(top), len(set(top)), path.name)
            for function in [node for node in ast.walk(tree) if isinstance(node, ast.FunctionDef)]:
                local = {node.arg for node in ast.walk(function) if isinstance(node, ast.arg)}
                local |= {node.id for node in ast.walk(function) if isinstance(node, ast.Name) and isinstance(node.ctx, ast.Store)}
                self.assertFalse(local & set(top), (path.name, function.name))

    def test_what_a_loop_walks_is_not_changed_in_it(self):
        for name, loop in self.each_node():
            if isinstance(loop, ast.For):
                walked = {ast.unparse(node) for node in ast.walk(loop.iter) if isinstance(node, (ast.Name, ast.Attribute))}
                for node in [node for part in loop.body for node in ast.walk(part)]:
                    if isinstance(node, ast.Call) and isinstance(node.func, ast.Attribute):
                        if node.func.attr in ("append", "extend", "insert", "pop", "remove", "clear", "reverse", "setdefault", "update"):
                            self.assertNotIn(ast.unparse(node.func.value), walked, (name, node.lineno))
                    if isinstance(node, ast.Subscript) and isinstance(node.ctx, ast.Store):
                        self.assertNotIn(ast.unparse(node.value), walked, (name, node.lineno))

    def test_sets_are_only_sorted(self):
        for name, node in self.each_node():
            self.assertNotIsInstance(node, (ast.Set, ast.SetComp), name)
            if isinstance(node, ast.Call):
                for argument in node.args:
                    if isinstance(argument, ast.Call) and ast.unparse(argument.func) == "set":
                        self.assertIn(ast.unparse(node.func), ("sorted", "len"), (name, node.lineno))
            elif any(isinstance(part, ast.Call) and ast.unparse(part.func) == "set" for part in ast.iter_child_nodes(node)):
                self.fail((name, getattr(node, "lineno", 0)))

    def test_methods(self):
        methods, values, used = set(), set(), set()
        for name, node in self.each_node():
            if isinstance(node, ast.ClassDef):
                methods |= {item.name for item in node.body if isinstance(item, ast.FunctionDef)}
                self.assertTrue(all(isinstance(item, (ast.FunctionDef, ast.Pass)) for item in node.body), name)
            if isinstance(node, ast.Attribute):
                (values if isinstance(node.ctx, ast.Store) else used).add(node.attr)
        self.assertFalse(methods & values)
        self.assertFalse(used - methods - values - OWN_METHODS)
        for word in (methods | values) - {"__init__"}:
            self.assertFalse(any(hasattr(kind, word) for kind in (str, int, list, dict, set, bytes)), word)


if __name__ == "__main__":
    unittest.main()
