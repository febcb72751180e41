"""Those rules of the language part that a walk over the files can see."""

import ast
import builtins
import pathlib
import re
import unittest

PACKAGE = pathlib.Path(__file__).resolve().parent.parent / "slicepool"
FILES = sorted(path for path in PACKAGE.rglob("*.py"))

NODES = (
    ast.Module, ast.ImportFrom, ast.alias, ast.FunctionDef, ast.ClassDef, ast.arguments, ast.arg, ast.Assign,
    ast.AugAssign, ast.If, ast.While, ast.For, ast.Return, ast.Break, ast.Continue, ast.Pass, ast.Raise, ast.Expr,
    ast.Call, ast.Attribute, ast.Subscript, ast.Slice, ast.Name, ast.Load, ast.Store, ast.Constant, ast.List,
    ast.Tuple, ast.Dict, ast.ListComp, ast.comprehension, ast.BinOp, ast.UnaryOp, ast.BoolOp, ast.Compare, ast.IfExp,
    ast.And, ast.Or, ast.Not, ast.USub, ast.Add, ast.Sub, ast.Mult, ast.FloorDiv, ast.Mod,
    ast.Eq, ast.NotEq, ast.Lt, ast.LtE, ast.Gt, ast.GtE, ast.Is, ast.IsNot, ast.In, ast.NotIn,
)
PYTHONS = ("len", "range", "enumerate", "zip", "min", "max", "sum", "list", "tuple", "dict", "isinstance",
           "NotImplementedError")
METHODS = ("append", "extend")
OUT = ("type", "typing", "enum", "Enum", "Flag", "Generic", "Protocol", "ABC", "namedtuple", "open", "input", "register")


class FormTest(unittest.TestCase):
    def walk(self):
        for path in FILES:
            for node in ast.walk(ast.parse(path.read_text())):
                yield path.name, node

    def test_files(self):
        self.assertIn(PACKAGE / "__init__.py", FILES)
        self.assertIn(PACKAGE / "board.py", FILES)
        for path in PACKAGE.iterdir():
            if path.name != "__pycache__":
                self.assertRegex(path.name, r"^[a-z0-9_]+\.py$")

    def test_sizes_and_signs(self):
        for path in FILES:
            text = path.read_bytes().decode("ascii")
            self.assertRegex(text, r"^[\n -~]*$")
            self.assertLessEqual(len(text.splitlines()), 400)
            for row in text.splitlines():
                self.assertLessEqual(len(row), 120)
        for name, node in self.walk():
            if isinstance(node, ast.FunctionDef):
                self.assertLessEqual(node.end_lineno - node.lineno + 1, 40, node.name)

    def test_words(self):
        for path in FILES:
            for node in ast.walk(ast.parse(path.read_text())):
                for name in (getattr(node, "id", None), getattr(node, "attr", None), getattr(node, "name", None)):
                    self.assertNotIn(name, OUT)
            self.assertEqual(re.findall(r"\b(%s)\b" % "|".join(OUT[:9]), path.read_text()), [])

    def test_statements_and_expressions(self):
        for name, node in self.walk():
            self.assertIsInstance(node, NODES, f"{name} {getattr(node, 'lineno', 0)}")
            if isinstance(node, ast.Assign):
                self.assertEqual(len(node.targets), 1)
                self.assertNotIsInstance(node.targets[0], ast.Tuple)
            if isinstance(node, (ast.FunctionDef, ast.ClassDef)):
                self.assertEqual(node.decorator_list, [])
            if isinstance(node, (ast.For, ast.While)):
                self.assertEqual(node.orelse, [])
            if isinstance(node, ast.ImportFrom):
                self.assertTrue(node.level == 0 and node.module.startswith("slicepool."))

    def test_names(self):
        python = set(dir(builtins))
        for name, node in self.walk():
            if isinstance(node, ast.Name) and node.id in python:
                self.assertIn(node.id, PYTHONS, f"{name} {node.lineno}")
                self.assertIsInstance(node.ctx, ast.Load)
            if isinstance(node, (ast.arg, ast.FunctionDef)):
                called = node.arg if isinstance(node, ast.arg) else node.name
                self.assertNotIn(called, python)
                self.assertTrue(called == "__init__" or not called.startswith("_"), called)

    def test_methods_and_values(self):
        values = set()
        methods = set()
        for name, node in self.walk():
            if isinstance(node, ast.Attribute) and isinstance(node.ctx, ast.Store):
                values.add(node.attr)
            if isinstance(node, ast.ClassDef):
                methods.update(part.name for part in node.body if isinstance(part, ast.FunctionDef))
        self.assertEqual(values & methods, set())
        pythons = set(dir("") + dir(0) + dir([]) + dir({}) + dir(set()) + dir(b"")) - {"__init__"}
        self.assertEqual((values | methods) & pythons, set())
        for name, node in self.walk():
            if isinstance(node, ast.Call) and isinstance(node.func, ast.Attribute):
                self.assertIn(node.func.attr, methods | set(METHODS))

    def test_values_at_the_top(self):
        for path in FILES:
            bound = []
            for node in ast.parse(path.read_text()).body:
                if isinstance(node, ast.Assign):
                    bound.append(node.targets[0].id)
                    for part in ast.walk(node.value):
                        self.assertIsInstance(part, (ast.Constant, ast.Tuple, ast.UnaryOp, ast.USub, ast.Load), path.name)
                if isinstance(node, (ast.FunctionDef, ast.ClassDef)):
                    bound.append(node.name)
                if isinstance(node, ast.ImportFrom):
                    bound += [part.name for part in node.names]
            self.assertEqual(len(bound), len(set(bound)), path.name)


if __name__ == "__main__":
    unittest.main()
