"""Some rules of the language that the package is written in, those easily broken unseen."""

import ast
import os
import unittest

PACKAGE = os.path.join(os.path.dirname(os.path.dirname(os.path.abspath(__file__))), "manyboard")

BUILTINS = {
    "len", "range", "enumerate", "zip", "min", "max", "sum", "abs", "sorted", "reversed", "int", "str", "bool",
    "list", "tuple", "dict", "set", "isinstance", "ord", "repr", "any", "all", "divmod", "ValueError",
    "KeyError", "IndexError",
}

DUNDERS = {"__init__", "__eq__", "__repr__", "__str__", "__len__"}


# What may go over a range, a zip and their like on the spot.
ITERATING = {"list", "tuple", "dict", "sorted", "sum", "any", "all", "enumerate", "zip"}


def is_lazy(function):
    """Whether what is called gives something that is to be iterated at once."""
    if isinstance(function, ast.Attribute):
        return function.attr in {"items", "keys", "values"}
    return isinstance(function, ast.Name) and function.id in {"range", "zip", "enumerate", "reversed", "map", "iter"}


def sources():
    """The text of each file of the package, by its name."""
    found = {}
    for name in sorted(os.listdir(PACKAGE)):
        if name != "__pycache__":
            with open(os.path.join(PACKAGE, name), encoding="ascii") as file:
                found[name] = file.read()
    return found


class Language(unittest.TestCase):
    def setUp(self):
        self.sources = sources()
        self.trees = {name: ast.parse(text) for name, text in self.sources.items()}

    def nodes(self, *kinds):
        for name, tree in self.trees.items():
            for node in ast.walk(tree):
                if isinstance(node, kinds):
                    yield f"{name}:{node.lineno}", node

    def test_files(self):
        self.assertIn("__init__.py", self.sources)
        for name in self.sources:
            self.assertRegex(name, r"\A[a-z_]+\.py\Z")

    def test_signs_and_sizes(self):
        for name, text in self.sources.items():
            with self.subTest(name):
                self.assertTrue(all(sign == "\n" or " " <= sign <= "~" for sign in text))
                self.assertLessEqual(len(text.splitlines()), 399)
                self.assertLessEqual(max(len(line) for line in text.splitlines()), 120)

    def test_functions_are_short_and_bare(self):
        for place, node in self.nodes(ast.FunctionDef):
            with self.subTest(place):
                self.assertLessEqual(node.end_lineno - node.lineno + 1, 40)
                self.assertEqual(node.decorator_list, [])
                if node.name.startswith("__"):
                    self.assertIn(node.name, DUNDERS)

    def test_imports_are_of_the_package(self):
        self.assertEqual([place for place, _ in self.nodes(ast.Import)], [])
        for place, node in self.nodes(ast.ImportFrom):
            with self.subTest(place):
                self.assertEqual(node.level, 0)
                self.assertTrue(node.module.startswith("manyboard."))
                for alias in node.names:
                    self.assertIn(alias.name, self.defined(node.module.split(".")[1] + ".py"))

    def defined(self, name):
        """What a file defines at its top."""
        found = set()
        for node in self.trees[name].body:
            if isinstance(node, (ast.ClassDef, ast.FunctionDef)):
                found.add(node.name)
            elif isinstance(node, ast.Assign):
                found.add(node.targets[0].id)
        return found

    def test_no_two_files_import_from_each_other(self):
        behind = {name: {node.module.split(".")[1] + ".py" for node in ast.walk(tree)
                         if isinstance(node, ast.ImportFrom)} for name, tree in self.trees.items()}
        left = dict(behind)
        while left:
            free = [name for name in left if not behind[name] & set(left)]
            self.assertTrue(free, sorted(left))
            for name in free:
                del left[name]

    def test_each_name_is_bound_once(self):
        for file, tree in self.trees.items():
            names = []
            for node in tree.body:
                if isinstance(node, ast.ImportFrom):
                    names.extend(alias.name for alias in node.names)
                elif isinstance(node, (ast.ClassDef, ast.FunctionDef)):
                    names.append(node.name)
                elif isinstance(node, ast.Assign):
                    names.append(node.targets[0].id)
            with self.subTest(file):
                self.assertEqual(len(names), len(set(names)))
                inner = {node.arg for node in ast.walk(tree) if isinstance(node, ast.arg)}
                inner |= {node.id for node in ast.walk(tree)
                          if isinstance(node, ast.Name) and isinstance(node.ctx, ast.Store)}
                inner |= {node.name for node in ast.walk(tree) if isinstance(node, ast.ExceptHandler)}
                barred = {alias.name for node in tree.body if isinstance(node, ast.ImportFrom) for alias in node.names}
                barred |= {node.name for node in tree.body if isinstance(node, (ast.ClassDef, ast.FunctionDef))}
                self.assertEqual(inner & barred, set())

    def test_what_is_iterated_is_iterated_at_once(self):
        for name, tree in self.trees.items():
            good = set()
            for node in ast.walk(tree):
                if isinstance(node, (ast.For, ast.comprehension)):
                    good.add(node.iter)
                elif isinstance(node, ast.Call) and isinstance(node.func, ast.Name) and node.func.id in ITERATING:
                    good.update(node.args)
            for node in ast.walk(tree):
                if isinstance(node, ast.Call) and is_lazy(node.func):
                    with self.subTest(f"{name}:{node.lineno}"):
                        self.assertIn(node, good)

    def test_builtins(self):
        known = set(dir(__import__("builtins")))
        for place, node in self.nodes(ast.Name):
            if node.id in known:
                with self.subTest(place):
                    self.assertIn(node.id, BUILTINS)
                    self.assertIsInstance(node.ctx, ast.Load)

    def test_no_percent_sign_in_a_string_no_float_and_no_division(self):
        for place, node in self.nodes(ast.Constant):
            with self.subTest(place):
                self.assertNotIsInstance(node.value, float)
                if isinstance(node.value, str):
                    self.assertNotIn(chr(37), node.value)
        self.assertEqual([place for place, node in self.nodes(ast.BinOp) if isinstance(node.op, ast.Div)], [])

    def test_no_generator_expression_and_no_barred_statement(self):
        barred = (ast.GeneratorExp, ast.Global, ast.AsyncFunctionDef, ast.Await)
        self.assertEqual([place for place, _ in self.nodes(*barred)], [])


if __name__ == "__main__":
    unittest.main()
