"""Those rules of the language part that a walk over the files can see."""

import ast
import builtins
import pathlib
import re
import unittest

PACKAGE = pathlib.Path(__file__).resolve().parent.parent / "slicepool"
FILES = sorted(path for path in PACKAGE.rglob("*.py"))

NODES = (
    ast.Module, ast.ImportFrom, ast.alias, ast.FunctionDef, ast.ClassDef, ast.arguments, ast.arg, ast.Assign,
    ast.AugAssign, ast.If, ast.While, ast.For, ast.Return, ast.Break, ast.Continue, ast.Pass, ast.Raise, ast.Expr,
    ast.Call, ast.Attribute, ast.Subscript, ast.Slice, ast.Name, ast.Load, ast.Store, ast.Constant, ast.List,
    ast.Tuple, ast.Dict, ast.ListComp, ast.comprehension, ast.BinOp, ast.UnaryOp, ast.BoolOp, ast.Compare, ast.IfExp,
    ast.And, ast.Or, ast.Not, ast.USub, ast.Add, ast.Sub, ast.Mult, ast.FloorDiv, ast.Mod,
    ast.Eq, ast.NotEq, ast.Lt, ast.LtE, ast.Gt, ast.GtE, ast.Is, ast.IsNot, ast.In, ast.NotIn,
)
PYTHONS = ("len", "range", "enumerate", "zip", "min", "max", "sum", "list", "tuple", "dict", "isinstance")
WALKED = ("range", "enumerate", "zip")
METHODS = ("append", "extend")
OUT = ("type", "typing", "enum", "Enum", "Flag", "Generic", "Protocol", "ABC", "namedtuple", "open", "input",
       "register")


def names_of_top(tree):
    """The names that a file's top binds, in order: imports, values, functions, classes."""
    names = []
    for node in tree.body:
        if isinstance(node, ast.Assign):
            names += [part.id for part in node.targets]
        if isinstance(node, (ast.FunctionDef, ast.ClassDef)):
            names.append(node.name)
        if isinstance(node, ast.ImportFrom):
            names += [part.asname or part.name for part in node.names]
    return names


def targets_of(node):
    if isinstance(node, ast.Assign):
        return node.targets
    return [node.target] if isinstance(node, (ast.AugAssign, ast.AnnAssign, ast.For, ast.comprehension)) else []


def given_past_a_local(tree):
    """The rows that give a value to what is reached otherwise than through a local name."""
    top = names_of_top(tree)
    rows = []
    for node in ast.walk(tree):
        for target in targets_of(node):
            base = target
            while isinstance(base, (ast.Attribute, ast.Subscript)):
                base = base.value
            is_local = isinstance(base, ast.Name) and base.id not in top
            if not is_local and node not in tree.body:
                rows.append(target.lineno)
    return rows


def classes_handed_on(tree, classes):
    """The rows where a class stands elsewhere than as a call, a base, or by isinstance, raise or except."""
    fit = []
    for node in ast.walk(tree):
        if isinstance(node, ast.Call):
            fit.append(node.func)
            if isinstance(node.func, ast.Name) and node.func.id == "isinstance":
                fit.append(node.args[1])
        if isinstance(node, ast.Attribute) and node.attr == "__init__":
            fit.append(node.value)
        if isinstance(node, ast.ClassDef):
            fit += node.bases
        if isinstance(node, ast.ExceptHandler):
            fit.append(node.type)
    return [node.lineno for node in ast.walk(tree)
            if isinstance(node, ast.Name) and node.id in classes and node not in fit]


def kept_walks(tree):
    """The rows where a range and its like is not walked on the spot."""
    fit = []
    for node in ast.walk(tree):
        if isinstance(node, (ast.For, ast.comprehension)):
            fit.append(node.iter)
        if isinstance(node, ast.Call) and isinstance(node.func, ast.Name):
            if node.func.id in ("list", "tuple", "dict", "sum", "enumerate", "zip"):
                fit += node.args[:1]
    return [node.lineno for node in ast.walk(tree) if isinstance(node, ast.Call) and isinstance(node.func, ast.Name)
            and node.func.id in WALKED and node not in fit]


class FormTest(unittest.TestCase):
    def walk(self):
        for path in FILES:
            for node in ast.walk(ast.parse(path.read_text())):
                yield path.name, node

    def test_files(self):
        self.assertIn(PACKAGE / "__init__.py", FILES)
        self.assertIn(PACKAGE / "board.py", FILES)
        for path in PACKAGE.iterdir():
            if path.name != "__pycache__":
                self.assertRegex(path.name, r"^[a-z0-9_]+\.py$")

    def test_sizes_and_signs(self):
        for path in FILES:
            text = path.read_bytes().decode("ascii")
            self.assertRegex(text, r"^[\n -~]*$")
            self.assertLessEqual(len(text.splitlines()), 400)
            for row in text.splitlines():
                self.assertLessEqual(len(row), 120)
        for name, node in self.walk():
            if isinstance(node, ast.FunctionDef):
                self.assertLessEqual(node.end_lineno - node.lineno + 1, 40, node.name)

    def test_words(self):
        for path in FILES:
            for node in ast.walk(ast.parse(path.read_text())):
                for name in (getattr(node, "id", None), getattr(node, "attr", None), getattr(node, "name", None)):
                    self.assertNotIn(name, OUT)
            self.assertEqual(re.findall(r"\b(%s)\b" % "|".join(OUT[:9]), path.read_text()), [])

    def test_statements_and_expressions(self):
        for name, node in self.walk():
            self.assertIsInstance(node, NODES, f"{name} {getattr(node, 'lineno', 0)}")
            if isinstance(node, ast.Assign):
                self.assertEqual(len(node.targets), 1)
                self.assertNotIsInstance(node.targets[0], ast.Tuple)
            if isinstance(node, (ast.FunctionDef, ast.ClassDef)):
                self.assertEqual(node.decorator_list, [])
            if isinstance(node, (ast.For, ast.While)):
                self.assertEqual(node.orelse, [])
            if isinstance(node, ast.ImportFrom):
                self.assertTrue(node.level == 0 and node.module.startswith("slicepool."))

    def test_names(self):
        python = set(dir(builtins))
        for name, node in self.walk():
            if isinstance(node, ast.Name) and node.id in python:
                self.assertIn(node.id, PYTHONS, f"{name} {node.lineno}")
                self.assertIsInstance(node.ctx, ast.Load)
            if isinstance(node, (ast.arg, ast.FunctionDef)):
                called = node.arg if isinstance(node, ast.arg) else node.name
                self.assertNotIn(called, python)
                self.assertTrue(called == "__init__" or not called.startswith("_"), called)

    def test_methods_and_values(self):
        values = set()
        methods = set()
        for name, node in self.walk():
            if isinstance(node, ast.Attribute) and isinstance(node.ctx, ast.Store):
                values.add(node.attr)
            if isinstance(node, ast.ClassDef):
                methods.update(part.name for part in node.body if isinstance(part, ast.FunctionDef))
        self.assertEqual(values & methods, set())
        pythons = set(dir("") + dir(0) + dir([]) + dir({}) + dir(set()) + dir(b"")) - {"__init__"}
        self.assertEqual((values | methods) & pythons, set())
        for name, node in self.walk():
            if isinstance(node, ast.Call) and isinstance(node.func, ast.Attribute):
                self.assertIn(node.func.attr, methods | set(METHODS))

    def test_values_at_the_top(self):
        for path in FILES:
            tree = ast.parse(path.read_text())
            for node in tree.body:
                if isinstance(node, ast.Assign):
                    for part in ast.walk(node.value):
                        plain = (ast.Constant, ast.Tuple, ast.UnaryOp, ast.USub, ast.Load)
                        self.assertIsInstance(part, plain, path.name)
            bound = names_of_top(tree)
            self.assertEqual(len(bound), len(set(bound)), path.name)

    def test_values_are_given_through_a_local_name(self):
        for path in FILES:
            self.assertEqual(given_past_a_local(ast.parse(path.read_text())), [], path.name)

    def test_what_is_given_past_a_local_name_is_seen(self):
        for row in ("f(x).y = 1", "f(x)[0] = 1", "f(x).y += 1", "x.g().y = 1", "x[0].g()[1].y = 1", "C.y = 1",
                    "C.y[0] += 1", "TOP[0] = 1", "(x if a else b).y = 1", "for f(x).y in (1, 2): pass"):
            text = f"TOP = (1, 2)\nclass C:\n    pass\ndef g(x, a, b):\n    {row}\n"
            self.assertEqual(given_past_a_local(ast.parse(text)), [5], row)
        for row in ("x = 1", "x.y = 1", "x[0] = 1", "x.y[f(a)].z += 1", "for z in f(x): pass"):
            text = f"TOP = (1, 2)\ndef g(x, a, b):\n    {row}\n"
            self.assertEqual(given_past_a_local(ast.parse(text)), [], row)

    def test_classes_are_not_handed_on(self):
        classes = [node.name for name, node in self.walk() if isinstance(node, ast.ClassDef)]
        self.assertEqual(len(classes), len(set(classes)))
        for path in FILES:
            self.assertEqual(classes_handed_on(ast.parse(path.read_text()), classes), [], path.name)
        for row in ("x = C", "f(C)", "x = [C]", "C.y()"):
            self.assertEqual(classes_handed_on(ast.parse(row), ["C"]), [1], row)
        for row in ("x = C()", "C.__init__(x)", "isinstance(x, C)", "raise C(1)"):
            self.assertEqual(classes_handed_on(ast.parse(row), ["C"]), [], row)

    def test_walks_are_not_kept(self):
        for path in FILES:
            self.assertEqual(kept_walks(ast.parse(path.read_text())), [], path.name)
        self.assertEqual(kept_walks(ast.parse("x = range(3)")), [1])
        self.assertEqual(kept_walks(ast.parse("x = list(range(3))")), [])

    def test_is_stands_beside_none_true_false(self):
        for name, node in self.walk():
            if isinstance(node, ast.Compare) and isinstance(node.ops[0], (ast.Is, ast.IsNot)):
                beside = getattr(node.comparators[0], "value", 0)
                self.assertTrue(any(beside is plain for plain in (None, True, False)), f"{name} {node.lineno}")

    def test_texts(self):
        for name, node in self.walk():
            if isinstance(node, ast.Constant) and isinstance(node.value, str):
                self.assertNotIn("%", node.value, f"{name} {node.lineno}")
            self.assertNotIsInstance(getattr(node, "value", None), (float, bytes))

    def test_locals_are_called_unlike_classes_and_imports(self):
        for path in FILES:
            tree = ast.parse(path.read_text())
            taken = [part.name for node in tree.body if isinstance(node, ast.ImportFrom) for part in node.names]
            taken += [node.name for node in tree.body if isinstance(node, ast.ClassDef)]
            for node in ast.walk(tree):
                if isinstance(node, ast.arg):
                    self.assertNotIn(node.arg, taken, path.name)
                if isinstance(node, ast.Name) and isinstance(node.ctx, ast.Store):
                    self.assertNotIn(node.id, taken, path.name)

    def test_imports_draw_from_the_file_that_defines(self):
        drawn = {}
        for path in FILES:
            tree = ast.parse(path.read_text())
            imports = [node for node in tree.body if isinstance(node, ast.ImportFrom)]
            drawn[path.stem] = [node.module.split(".")[1] for node in imports]
            for node in imports:
                source = ast.parse((PACKAGE / (node.module.split(".")[1] + ".py")).read_text())
                own = [part for part in source.body if not isinstance(part, ast.ImportFrom)]
                for part in node.names:
                    self.assertIn(part.name, names_of_top(ast.Module(own, [])), path.name)
                    self.assertIsNone(part.asname)
        # Files that draw from nothing that is left are taken away, until none is left where there is no ring.
        while drawn:
            free = [stem for stem, sources in drawn.items() if not any(source in drawn for source in sources)]
            self.assertNotEqual(free, [], drawn)
            for stem in free:
                drawn.pop(stem)

    def test_what_is_imported_is_used(self):
        for path in FILES:
            tree = ast.parse(path.read_text())
            used = [node.id for node in ast.walk(tree) if isinstance(node, ast.Name)]
            for node in tree.body:
                if isinstance(node, ast.ImportFrom):
                    for part in node.names:
                        self.assertIn(part.name, used, path.name)


if __name__ == "__main__":
    unittest.main()
