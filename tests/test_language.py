"""The rules of the language that can be told from the text of the package."""

import ast
import builtins
import unittest

from sources import PACKAGE, parsed

# The prompt of a session that a test runs may have set "_".
BUILTIN_NAMES = set(dir(builtins)) - {"_"}

LIBRARY = {"math": {"gcd", "lcm"}}

BUILTINS = {
    "len", "range", "enumerate", "zip", "min", "max", "sum", "abs", "sorted", "reversed", "int", "str", "bool", "list",
    "tuple", "dict", "set", "isinstance", "ord", "repr", "any", "all", "divmod", "ValueError", "NotImplemented",
    "property", "classmethod", "super",
}


def bound(node):
    """The names that a node gives a meaning."""
    if isinstance(node, (ast.FunctionDef, ast.ClassDef)):
        return [node.name]
    if isinstance(node, ast.arg):
        return [node.arg]
    if isinstance(node, ast.Name) and isinstance(node.ctx, ast.Store):
        return [node.id]
    return []


def called(node):
    """The name of the function that a node calls, or None."""
    return node.func.id if isinstance(node, ast.Call) and isinstance(node.func, ast.Name) else None


def is_whole(node):
    return isinstance(node, ast.Constant) and type(node.value) is int


class LanguageTest(unittest.TestCase):

    def test_folder(self):
        others = [path.name for path in PACKAGE.iterdir() if path.suffix != ".py" and path.name != "__pycache__"]
        self.assertEqual(others, [])

    def test_sizes_and_characters(self):
        for path, text, tree in parsed():
            lines = text.split("\n")
            self.assertLess(len(lines), 401, path)
            self.assertEqual([line for line in lines if len(line) > 120], [])
            self.assertTrue(all(" " <= letter <= "~" or letter == "\n" for letter in text), path)
            for node in ast.walk(tree):
                if isinstance(node, ast.FunctionDef):
                    self.assertLessEqual(node.end_lineno - node.lineno + 1, 40, node.name)

    def test_imports(self):
        for path, _, tree in parsed():
            for node in ast.walk(tree):
                self.assertNotIsInstance(node, ast.Import)
                if isinstance(node, ast.ImportFrom):
                    self.assertEqual(node.level, 0)
                    names = {alias.name for alias in node.names}
                    if node.module in LIBRARY:
                        self.assertLessEqual(names, LIBRARY[node.module])
                    else:
                        self.assertTrue((PACKAGE / (node.module.removeprefix("clockfolds.") + ".py")).exists())

    def test_every_import_is_used(self):
        for path, _, tree in parsed():
            used = {node.id for node in ast.walk(tree) if isinstance(node, ast.Name)}
            for node in tree.body:
                if isinstance(node, ast.ImportFrom):
                    self.assertEqual([alias.name for alias in node.names if alias.name not in used], [], path)

    def test_values_and_names(self):
        for path, _, tree in parsed():
            for node in ast.walk(tree):
                self.assertNotIsInstance(node, (ast.Div, ast.Global, ast.AsyncFunctionDef, ast.AnnAssign))
                if isinstance(node, ast.Constant):
                    self.assertNotIsInstance(node.value, (float, complex))
                for name in [name for name in bound(node) if not name.startswith("__")]:
                    self.assertNotIn(name, BUILTIN_NAMES, path)
                if isinstance(node, ast.Name) and node.id in BUILTIN_NAMES:
                    self.assertIn(node.id, BUILTINS, path)

    def test_module_level(self):
        kinds = (ast.ImportFrom, ast.FunctionDef, ast.ClassDef, ast.Assign, ast.Expr)
        for path, _, tree in parsed():
            for node in tree.body:
                self.assertIsInstance(node, kinds, path)
                if isinstance(node, ast.Expr):
                    self.assertIsInstance(node.value, ast.Constant, path)

    def test_module_level_values(self):
        kinds = (ast.Constant, ast.Tuple, ast.List, ast.Dict, ast.BinOp, ast.UnaryOp, ast.operator, ast.unaryop, ast.Load)
        for path, _, tree in parsed():
            for node in [node for node in tree.body if isinstance(node, ast.Assign)]:
                self.assertEqual([type(target) for target in node.targets], [ast.Name], path)
                for part in ast.walk(node.value):
                    self.assertIsInstance(part, kinds, (path, node.lineno))

    def test_sorted_and_max(self):
        # Beside a class with an order, these take only what is plainly numbers.
        for path, _, tree in parsed():
            for node in ast.walk(tree):
                if called(node) == "sorted":
                    self.assertEqual([called(node.args[0]), len(node.args), node.keywords], ["set", 1, []], path)
                if called(node) in ("min", "max"):
                    self.assertEqual(len(node.args), 2, path)
                    self.assertTrue(any(is_whole(one) for one in node.args), (path, node.lineno))

    def test_statements(self):
        for path, _, tree in parsed():
            for node in ast.walk(tree):
                self.assertNotIsInstance(node, (ast.GeneratorExp, ast.Lambda, ast.Try, ast.With))
                if isinstance(node, ast.AugAssign):
                    self.assertTrue(isinstance(node.target, ast.Name) and is_whole(node.value), (path, node.lineno))
                if isinstance(node, ast.Compare) and any(isinstance(sign, (ast.Is, ast.IsNot)) for sign in node.ops):
                    self.assertIsNone(node.comparators[0].value, path)
                if isinstance(node, ast.Attribute):
                    self.assertNotIn(node.attr, ("sort", "__eq__", "__lt__", "format"), path)

    def test_names_of_generators(self):
        names, generators = [], []
        for _, _, tree in parsed():
            for node in ast.walk(tree):
                if isinstance(node, ast.FunctionDef):
                    names.append(node.name)
                    if any(isinstance(part, (ast.Yield, ast.YieldFrom)) for part in ast.walk(node)):
                        generators.append(node.name)
        self.assertEqual([name for name in generators if names.count(name) > 1], [])

    def test_methods_and_attributes(self):
        for path, _, tree in parsed():
            for kind in [node for node in ast.walk(tree) if isinstance(node, ast.ClassDef)]:
                methods = {node.name for node in kind.body if isinstance(node, ast.FunctionDef)}
                stored = {node.attr for node in ast.walk(kind)
                          if isinstance(node, ast.Attribute) and isinstance(node.ctx, ast.Store)}
                self.assertEqual(methods & stored, set(), path)


if __name__ == "__main__":
    unittest.main()
