"""The package keeps to the part of Python it is written in, as far as a plain look can tell."""

import ast
import builtins
import pathlib
import re
import unittest

PACKAGE = pathlib.Path(__file__).resolve().parent.parent / "faultfind"
FILES = sorted(path for path in PACKAGE.rglob("*") if path.is_file() and "__pycache__" not in path.parts)
ALLOWED_CALLS = {"len", "range", "enumerate", "zip", "min", "max", "sum", "abs", "sorted", "reversed", "int", "str",
                 "bool", "list", "tuple", "dict", "isinstance", "any", "all", "divmod"}
ALLOWED_NODES = (
    ast.Module, ast.FunctionDef, ast.ClassDef, ast.arguments, ast.arg, ast.Assign, ast.AugAssign, ast.If, ast.While,
    ast.For, ast.Return, ast.Expr, ast.Call, ast.keyword, ast.Name, ast.Attribute, ast.Subscript, ast.Slice,
    ast.Constant, ast.List, ast.Tuple, ast.Dict, ast.ListComp, ast.comprehension, ast.BinOp, ast.UnaryOp, ast.BoolOp,
    ast.Compare, ast.IfExp, ast.operator, ast.unaryop, ast.boolop, ast.cmpop, ast.expr_context)
OUT = r"\b(type|typing|enum|Enum|Flag|Generic|Protocol|ABC|namedtuple|NamedTuple)\b|dataclass|overload|contextmanager"

NOWHERE = {"register", "mro", "elements", "open", "input", "version_info", "with_traceback", "add_note"}
METHODS = {"append", "clear", "copy", "count", "extend", "get", "index", "insert", "items", "keys", "pop", "remove",
           "reverse", "setdefault", "update", "values", "bit_length"}


def bound(tree):
    """Each name that is given a meaning: a def, a class, a parameter, a local, a value of an object."""
    for node in ast.walk(tree):
        if isinstance(node, (ast.FunctionDef, ast.ClassDef)):
            yield node.name
        if isinstance(node, ast.arg):
            yield node.arg
        if isinstance(node, ast.Name) and isinstance(node.ctx, ast.Store):
            yield node.id
        if isinstance(node, ast.Attribute):
            yield node.attr


class Language(unittest.TestCase):
    def trees(self):
        return [(path, ast.parse(path.read_text(encoding="ascii"))) for path in FILES]

    def test_only_plain_files(self):
        self.assertEqual([path.name for path in FILES], ["__init__.py", "faults.py"])

    def test_sizes_and_signs(self):
        for path, tree in self.trees():
            lines = path.read_text(encoding="ascii").split("\n")
            self.assertLessEqual(len(lines), 400)
            for line in lines:
                self.assertRegex(line, r"\A[ -~]{0,120}\Z")
            for node in ast.walk(tree):
                if isinstance(node, ast.FunctionDef):
                    self.assertLessEqual(node.end_lineno - node.lineno + 1, 40, node.name)

    def test_only_allowed_forms(self):
        for path, tree in self.trees():
            for node in ast.walk(tree):
                self.assertIsInstance(node, ALLOWED_NODES, (path, getattr(node, "lineno", 0)))
                self.assertNotIsInstance(node, (ast.Div, ast.Is, ast.IsNot, ast.Pow), path)
                if isinstance(node, ast.Constant):
                    self.assertIn(type(node.value), (int, str, bool, type(None)))

    def test_only_allowed_names_are_called(self):
        for path, tree in self.trees():
            own = {node.name for node in ast.walk(tree) if isinstance(node, (ast.FunctionDef, ast.ClassDef))}
            for node in ast.walk(tree):
                if isinstance(node, ast.Call) and isinstance(node.func, ast.Name):
                    self.assertIn(node.func.id, own | ALLOWED_CALLS)

    def test_no_name_of_pythons_own_has_another_meaning(self):
        for path, tree in self.trees():
            for name in bound(tree):
                self.assertNotIn(name, dir(builtins), path)
                self.assertNotIn(name, NOWHERE, path)
                self.assertRegex(name, r"\A([A-Za-z][A-Za-z0-9_]*|__init__)\Z", path)

    def test_only_allowed_methods_are_called(self):
        for path, tree in self.trees():
            for node in ast.walk(tree):
                if isinstance(node, ast.Call) and isinstance(node.func, ast.Attribute):
                    self.assertIn(node.func.attr, METHODS, (path, node.lineno))

    def test_each_name_of_a_files_top_once(self):
        for path, tree in self.trees():
            names = []
            for node in tree.body:
                if isinstance(node, (ast.FunctionDef, ast.ClassDef)):
                    names.append(node.name)
                elif isinstance(node, ast.Assign):
                    self.assertEqual(len(node.targets), 1)
                    names.append(node.targets[0].id)
            self.assertEqual(len(names), len(set(names)), path)

    def test_one_target_in_an_assignment(self):
        for path, tree in self.trees():
            for node in ast.walk(tree):
                if isinstance(node, ast.Assign):
                    self.assertEqual(len(node.targets), 1, (path, node.lineno))
                    self.assertNotIsInstance(node.targets[0], ast.Tuple, (path, node.lineno))

    def test_words_that_stand_nowhere(self):
        for path in FILES:
            self.assertIsNone(re.search(OUT, path.read_text(encoding="ascii")), path)


if __name__ == "__main__":
    unittest.main()
