"""Rules for the form of the program that can be told from its files alone."""

import ast
import builtins
import pathlib
import unittest

PACKAGE = pathlib.Path(__file__).resolve().parent.parent / "basetrees"
BUILTINS = set("""len range enumerate zip min max sum abs sorted reversed int str bool bytes list tuple dict set
frozenset isinstance ord repr any all divmod pow Exception ValueError TypeError KeyError IndexError LookupError
ZeroDivisionError ArithmeticError OverflowError RuntimeError NotImplementedError AttributeError
property super""".split())
LIBRARY = {"math": {"gcd"}}
METHODS = set("""append clear copy count endswith extend find get index insert isalnum isalpha isdigit islower isspace
isupper items join keys ljust lower lstrip partition pop remove replace reverse rfind rjust rpartition rsplit rstrip
setdefault split splitlines startswith strip update upper values zfill bit_length title capitalize swapcase casefold
center expandtabs removeprefix removesuffix rindex isascii isdecimal isnumeric istitle isidentifier isprintable
add discard""".split())
DOUBLE = {"__init__", "__eq__", "__repr__", "__str__", "__len__", "__enter__", "__exit__", "__contains__",
          "__getitem__", "__iter__", "__bool__"}


def shows(value):
    """Whether a `__str__` or `__repr__` may return this: a text, an f-string, str, repr or the join of a text."""
    if isinstance(value, ast.Constant):
        return isinstance(value.value, str)
    if isinstance(value, ast.Call) and isinstance(value.func, ast.Attribute):
        return value.func.attr == "join" and isinstance(value.func.value, ast.Constant)
    if isinstance(value, ast.Call):
        return value.func.id in ("str", "repr")
    return isinstance(value, ast.JoinedStr)


class FormTest(unittest.TestCase):
    def setUp(self):
        self.files = sorted(PACKAGE.rglob("*.py"))
        self.trees = {path: ast.parse(path.read_text()) for path in self.files}

    def nodes(self, *kinds):
        return [(path, node) for path, tree in self.trees.items() for node in ast.walk(tree)
                if isinstance(node, kinds)]

    def test_files(self):
        self.assertIn(PACKAGE / "__init__.py", self.files)
        for path in PACKAGE.iterdir():
            self.assertTrue(path.suffix == ".py" or path.name == "__pycache__", path)

    def test_sizes_and_characters(self):
        for path in self.files:
            text = path.read_text()
            self.assertLessEqual(len(text.split("\n")), 400, path)
            for line in text.split("\n"):
                self.assertLessEqual(len(line), 120, path)
                self.assertTrue(all(" " <= letter <= "~" for letter in line), path)

    def test_functions_are_small(self):
        for path, node in self.nodes(ast.FunctionDef):
            self.assertLessEqual(node.end_lineno - node.lineno + 1, 40, (path, node.name))

    def test_imports_are_of_the_package(self):
        self.assertEqual(self.nodes(ast.Import), [])
        for path, node in self.nodes(ast.ImportFrom):
            self.assertIn(node, self.trees[path].body)
            if node.module in LIBRARY:
                self.assertLessEqual({alias.name for alias in node.names}, LIBRARY[node.module])
                continue
            self.assertTrue(node.module.startswith("basetrees.") and node.level == 0, (path, node.module))
            names = self.defined_names(PACKAGE / (node.module.split(".")[1] + ".py"))
            for alias in node.names:
                self.assertIn(alias.name, names, path)

    def defined_names(self, path):
        body = self.trees[path].body
        names = {node.name for node in body if isinstance(node, (ast.FunctionDef, ast.ClassDef))}
        return names | {node.targets[0].id for node in body if isinstance(node, ast.Assign)}

    def test_builtins(self):
        for path, node in self.nodes(ast.Name):
            if hasattr(builtins, node.id):
                self.assertIn(node.id, BUILTINS, (path, node.lineno))
                self.assertIsInstance(node.ctx, ast.Load, (path, node.lineno))

    def test_no_two_files_import_from_each_other(self):
        asked = {path.stem: [node.module.split(".")[1] for node in tree.body if isinstance(node, ast.ImportFrom)
                             and node.module not in LIBRARY] for path, tree in self.trees.items()}
        done = []
        while len(done) < len(asked):
            free = [name for name in asked if name not in done and set(asked[name]) <= set(done)]
            self.assertTrue(free, (asked, done))
            done.extend(free)

    def test_parameters_have_names_of_their_own(self):
        for path, node in self.nodes(ast.arg):
            self.assertNotIn(node.arg, vars(builtins), (path, node.lineno))
        for path, node in self.nodes(ast.FunctionDef, ast.ClassDef):
            self.assertNotIn(node.name, vars(builtins), (path, node.lineno))

    def test_names_are_bound_once_in_a_file(self):
        for path, tree in self.trees.items():
            names = [alias.name for node in tree.body if isinstance(node, ast.ImportFrom) for alias in node.names]
            names.extend(sorted(self.defined_names(path)))
            self.assertEqual(len(names), len(set(names)), path)
            taken = {node.name for node in tree.body if isinstance(node, ast.ClassDef)}
            taken |= {alias.name for node in tree.body if isinstance(node, ast.ImportFrom) for alias in node.names}
            for node in ast.walk(tree):
                if isinstance(node, ast.Name) and isinstance(node.ctx, ast.Store):
                    self.assertNotIn(node.id, taken, (path, node.lineno))
                if isinstance(node, ast.arg):
                    self.assertNotIn(node.arg, taken, (path, node.lineno))

    def test_methods(self):
        own = {part.name for _, node in self.nodes(ast.ClassDef) for part in node.body
               if isinstance(part, ast.FunctionDef)}
        for path, node in self.nodes(ast.Call):
            if isinstance(node.func, ast.Attribute):
                self.assertIn(node.func.attr, METHODS | own, (path, node.lineno))

    def test_shown_texts(self):
        for path, node in self.nodes(ast.FunctionDef):
            if node.name in ("__str__", "__repr__"):
                self.assertIsInstance(node.body[-1], ast.Return, (path, node.lineno))
                for part in ast.walk(node):
                    if isinstance(part, ast.Return):
                        self.assertTrue(shows(part.value), (path, part.lineno))

    def test_what_is_compared_by_is(self):
        for path, node in self.nodes(ast.Compare):
            if ast.unparse(node) == "self is other":
                continue
            for sign, right in zip(node.ops, node.comparators):
                if isinstance(sign, (ast.Is, ast.IsNot)):
                    self.assertIsInstance(right, ast.Constant, (path, node.lineno))
                    self.assertIn(right.value, (None, True, False), (path, node.lineno))

    def test_what_is_left_out(self):
        self.assertEqual(self.nodes(ast.Div, ast.Global, ast.AsyncFunctionDef, ast.Await, ast.GeneratorExp), [])
        for path, node in self.nodes(ast.Constant):
            self.assertNotIsInstance(node.value, (float, complex), (path, node.lineno))
            if isinstance(node.value, str):
                self.assertNotIn("%", node.value, (path, node.lineno))

    def test_what_is_left_out_beside_getitem(self):
        for path in self.files:
            for word in ("(type)", "Meta", "metaclass=", ".keys", "def keys"):
                self.assertNotIn(word, path.read_text(), path)
        for path, node in self.nodes(ast.ClassDef):
            names = {part.name for part in node.body if isinstance(part, ast.FunctionDef)}
            self.assertLessEqual("__getitem__" in names, "__iter__" in names, (path, node.name))

    def test_rows_of_exit(self):
        for path, node in self.nodes(ast.FunctionDef):
            if node.name == "__exit__":
                self.assertEqual([part.arg for part in node.args.args], ["self", "kind", "value", "trace"])
                for part in ast.walk(node):
                    self.assertNotIsInstance(part, (ast.Call, ast.BinOp, ast.Subscript, ast.Raise, ast.For, ast.While))
                for part in [part for part in ast.walk(node) if isinstance(part, ast.If)]:
                    self.assertIn(ast.unparse(part.test), ("kind is None", "kind is not None"), path)

    def test_what_properties_and_operators_run(self):
        """They assign to local names alone, and call nothing of their own but checks."""
        own = {part.name for _, node in self.nodes(ast.ClassDef) for part in node.body
               if isinstance(part, ast.FunctionDef)}
        for path, node in self.nodes(ast.FunctionDef):
            if not node.decorator_list and node.name not in DOUBLE - {"__init__", "__enter__", "__exit__"}:
                continue
            for part in ast.walk(node):
                self.assertNotIsInstance(part, (ast.AugAssign, ast.Delete, ast.While, ast.For), (path, node.lineno))
                if isinstance(part, (ast.Attribute, ast.Subscript)):
                    self.assertIsInstance(part.ctx, ast.Load, (path, node.lineno))
                if isinstance(part, ast.Call) and isinstance(part.func, ast.Attribute):
                    self.assertNotIn(part.func.attr, own | {"append", "pop", "extend"}, (path, node.lineno))

    def test_double_underscore_methods(self):
        for path, node in self.nodes(ast.FunctionDef):
            if node.name.startswith("__"):
                self.assertIn(node.name, DOUBLE, (path, node.lineno))


if __name__ == "__main__":
    unittest.main()
