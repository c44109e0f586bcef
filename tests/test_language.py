"""The package's files keep to a small part of Python; the rules that are easily broken are looked at here."""

import ast
import builtins
import pathlib
import re
import unittest

PACKAGE = pathlib.Path(__file__).resolve().parent.parent / "figurefades"

BUILT_IN = {"len", "range", "enumerate", "zip", "min", "max", "sum", "abs", "sorted", "reversed", "int", "str", "bool",
            "list", "tuple", "dict", "isinstance", "ord", "repr", "any", "all", "divmod"}

WORDS_NOT_USED = re.compile(r"\b(type|typing|typing_extensions|enum|Enum|IntEnum|StrEnum|Flag|IntFlag|Generic|Protocol"
                            r"|ABC|ABCMeta|namedtuple|NamedTuple|TypedDict|TYPE_CHECKING|abstractmethod)\b"
                            r"|dataclass|overload|contextmanager")

# The methods of Python's own values that may be called; the package's own classes have none but __init__.
METHODS = {"append", "clear", "copy", "count", "endswith", "extend", "find", "get", "index", "insert", "items", "join",
           "keys", "pop", "remove", "replace", "reverse", "setdefault", "split", "startswith", "strip", "update",
           "values"}

# What an object's value may be called although Python's own values have it.
VALUES = {"count", "index", "title", "find", "get", "join", "lower", "upper", "split", "strip", "copy", "add"}
OWN_KINDS = (str, int, list, tuple, dict, set, bytes)

NODES = (ast.Module, ast.FunctionDef, ast.arguments, ast.arg, ast.ClassDef, ast.ImportFrom, ast.alias, ast.Assign,
         ast.AugAssign, ast.If, ast.While, ast.For, ast.Return, ast.Break, ast.Continue, ast.Pass, ast.Expr,
         ast.Constant, ast.List, ast.Tuple, ast.Dict, ast.BinOp, ast.UnaryOp, ast.BoolOp, ast.Compare, ast.IfExp,
         ast.Call, ast.Attribute, ast.Subscript, ast.Slice, ast.Name, ast.ListComp, ast.comprehension,
         ast.operator, ast.unaryop, ast.boolop, ast.cmpop, ast.expr_context)


def files():
    return sorted(PACKAGE.glob("**/*.py"))


def bound_names(tree):
    names = set()
    for node in ast.walk(tree):
        if isinstance(node, (ast.FunctionDef, ast.ClassDef)):
            names.add(node.name)
        elif isinstance(node, ast.arg):
            names.add(node.arg)
        elif isinstance(node, ast.alias):
            names.add(node.asname or node.name)
        elif isinstance(node, ast.Name) and isinstance(node.ctx, ast.Store):
            names.add(node.id)
    return names


class Language(unittest.TestCase):
    def test_there_are_files_and_nothing_else(self):
        lying = [path for path in PACKAGE.iterdir() if path.name != "__pycache__"]
        self.assertEqual(sorted(lying), files())
        self.assertIn(PACKAGE / "moves.py", lying)
        self.assertIn(PACKAGE / "__init__.py", lying)

    def test_signs_sizes_and_words(self):
        for path in files():
            text = path.read_bytes().decode("ascii")
            rows = text.split("\n")
            self.assertLessEqual(len(rows), 400, path)
            self.assertTrue(all(" " <= sign <= "~" for row in rows for sign in row), path)
            self.assertLessEqual(max(len(row) for row in rows), 120, path)
            self.assertIsNone(WORDS_NOT_USED.search(text), path)

    def test_nodes(self):
        for path in files():
            for node in ast.walk(ast.parse(path.read_text())):
                self.assertIsInstance(node, NODES, (path, getattr(node, "lineno", 0)))
                self.assertNotIsInstance(node, (ast.Div, ast.MatMult), path)
                if isinstance(node, ast.Constant):
                    self.assertIn(type(node.value), (int, str, bool, type(None)), path)
                if isinstance(node, ast.FunctionDef):
                    self.assertLessEqual(node.end_lineno - node.lineno + 1, 40, (path, node.name))
                    self.assertEqual(node.decorator_list, [], (path, node.name))
                if isinstance(node, ast.ImportFrom):
                    self.assertTrue(node.module.startswith("figurefades."), path)

    def test_methods_and_values_of_objects(self):
        for path in files():
            tree = ast.parse(path.read_text())
            called = {node.func.attr for node in ast.walk(tree)
                      if isinstance(node, ast.Call) and isinstance(node.func, ast.Attribute)}
            self.assertEqual(called - METHODS, set(), path)
            stored = {node.attr for node in ast.walk(tree)
                      if isinstance(node, ast.Attribute) and isinstance(node.ctx, ast.Store)}
            self.assertEqual({name for name in stored - VALUES if any(hasattr(kind, name) for kind in OWN_KINDS)}, set())

    def test_names(self):
        for path in files():
            tree = ast.parse(path.read_text())
            bound = bound_names(tree)
            self.assertEqual(bound & (set(dir(builtins)) | BUILT_IN), set(), path)
            self.assertEqual({name for name in bound if name.startswith("_")} - {"__init__"}, set(), path)
            read = {node.id for node in ast.walk(tree) if isinstance(node, ast.Name)}
            self.assertEqual(read - bound - BUILT_IN, set(), path)


if __name__ == "__main__":
    unittest.main()
