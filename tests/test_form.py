"""Rules for the form of the program that can be told from its files alone."""

import ast
import builtins
import pathlib
import unittest

PACKAGE = pathlib.Path(__file__).resolve().parent.parent / "basetrees"
BUILTINS = set("""len range enumerate zip min max sum abs sorted reversed int str bool bytes list tuple dict set
frozenset isinstance ord repr any all divmod pow Exception ValueError TypeError KeyError IndexError LookupError
ZeroDivisionError ArithmeticError OverflowError RuntimeError NotImplementedError AttributeError property super""".split())
DOUBLE = {"__init__", "__eq__", "__repr__", "__str__", "__len__", "__enter__", "__exit__", "__contains__",
          "__getitem__", "__iter__"}


class FormTest(unittest.TestCase):
    def setUp(self):
        self.files = sorted(PACKAGE.rglob("*.py"))
        self.trees = {path: ast.parse(path.read_text()) for path in self.files}

    def nodes(self, *kinds):
        return [(path, node) for path, tree in self.trees.items() for node in ast.walk(tree)
                if isinstance(node, kinds)]

    def test_files(self):
        self.assertIn(PACKAGE / "__init__.py", self.files)
        for path in PACKAGE.iterdir():
            self.assertTrue(path.suffix == ".py" or path.name == "__pycache__", path)

    def test_sizes_and_characters(self):
        for path in self.files:
            text = path.read_text()
            self.assertLessEqual(len(text.split("\n")), 400, path)
            for line in text.split("\n"):
                self.assertLessEqual(len(line), 120, path)
                self.assertTrue(all(" " <= letter <= "~" for letter in line), path)

    def test_functions_are_small(self):
        for path, node in self.nodes(ast.FunctionDef):
            self.assertLessEqual(node.end_lineno - node.lineno + 1, 40, (path, node.name))

    def test_imports_are_of_the_package(self):
        self.assertEqual(self.nodes(ast.Import), [])
        for path, node in self.nodes(ast.ImportFrom):
            self.assertIn(node, self.trees[path].body)
            self.assertTrue(node.module.startswith("basetrees.") and node.level == 0, (path, node.module))
            names = self.defined_names(PACKAGE / (node.module.split(".")[1] + ".py"))
            for alias in node.names:
                self.assertIn(alias.name, names, path)

    def defined_names(self, path):
        body = self.trees[path].body
        names = {node.name for node in body if isinstance(node, (ast.FunctionDef, ast.ClassDef))}
        return names | {node.targets[0].id for node in body if isinstance(node, ast.Assign)}

    def test_builtins(self):
        for path, node in self.nodes(ast.Name):
            if hasattr(builtins, node.id):
                self.assertIn(node.id, BUILTINS, (path, node.lineno))
                self.assertIsInstance(node.ctx, ast.Load, (path, node.lineno))

    def test_what_is_left_out(self):
        self.assertEqual(self.nodes(ast.Div, ast.Global, ast.AsyncFunctionDef, ast.Await), [])
        for path, node in self.nodes(ast.Constant):
            self.assertNotIsInstance(node.value, (float, complex), (path, node.lineno))
            if isinstance(node.value, str):
                self.assertNotIn("%", node.value, (path, node.lineno))

    def test_double_underscore_methods(self):
        for path, node in self.nodes(ast.FunctionDef):
            if node.name.startswith("__"):
                self.assertIn(node.name, DOUBLE, (path, node.lineno))


if __name__ == "__main__":
    unittest.main()
