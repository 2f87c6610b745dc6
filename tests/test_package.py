"""The package keeps to the size and the words that its language allows."""

import ast
import builtins
import unittest
from pathlib import Path

import soleway

FOLDER = Path(soleway.__file__).parent
STATEMENTS = (ast.FunctionDef, ast.ClassDef, ast.Return, ast.Assign, ast.AugAssign, ast.For, ast.While, ast.If,
              ast.Raise, ast.Try, ast.Delete, ast.ImportFrom, ast.Expr, ast.Pass, ast.Break, ast.Continue)
BUILTINS = {"len", "range", "enumerate", "zip", "min", "max", "sum", "abs", "sorted", "reversed", "int", "str", "bool",
            "list", "tuple", "dict", "set", "isinstance", "any", "all", "super", "ValueError"}


class Package(unittest.TestCase):

    def trees(self):
        for path in sorted(FOLDER.glob("*.py")):
            yield path.name, ast.parse(path.read_text())

    def test_nothing_but_python_files(self):
        for path in FOLDER.iterdir():
            self.assertTrue(path.suffix == ".py" or path.name == "__pycache__", path)
        self.assertTrue((FOLDER / "__init__.py").exists())

    def test_sizes_and_characters(self):
        for path in FOLDER.glob("*.py"):
            text = path.read_bytes().decode("ascii")
            self.assertTrue(all(sign == "\n" or " " <= sign <= "~" for sign in text), path)
            self.assertLessEqual(len(text.splitlines()), 399, path)
            self.assertLessEqual(max(len(line) for line in text.splitlines()), 120, path)

    def test_functions(self):
        for name, tree in self.trees():
            for node in ast.walk(tree):
                if isinstance(node, ast.FunctionDef):
                    self.assertLessEqual(node.end_lineno - node.lineno + 1, 40, (name, node.name))
                    self.assertEqual(node.decorator_list, [], (name, node.name))
                    self.assertTrue(ast.get_docstring(node) or node.name == "__init__", (name, node.name))

    def test_statements_and_imports(self):
        for name, tree in self.trees():
            for node in ast.walk(tree):
                if isinstance(node, ast.stmt):
                    self.assertIsInstance(node, STATEMENTS, (name, node.lineno))
                if isinstance(node, ast.ImportFrom):
                    self.assertTrue(node.module.startswith("soleway."), (name, node.lineno))
                if isinstance(node, ast.Constant):
                    self.assertNotIsInstance(node.value, (float, complex, bytes), (name, node.lineno))
                self.assertNotIsInstance(node, (ast.Lambda, ast.Set, ast.Global, ast.Div), name)
                if isinstance(node, ast.Subscript):
                    stars = [inner for inner in ast.walk(node.slice) if isinstance(inner, ast.Starred)]
                    self.assertEqual(stars, [], (name, node.lineno))

    def test_names(self):
        for name, tree in self.trees():
            bound = set()
            for node in ast.walk(tree):
                if isinstance(node, (ast.FunctionDef, ast.ClassDef, ast.ExceptHandler)):
                    bound.add(node.name)
                if isinstance(node, ast.ImportFrom):
                    bound.update(alias.name for alias in node.names)
                if isinstance(node, ast.arg):
                    bound.add(node.arg)
                if isinstance(node, ast.Name) and isinstance(node.ctx, ast.Store):
                    bound.add(node.id)
            self.assertEqual(bound & set(dir(builtins)), set(), name)
            read = {node.id for node in ast.walk(tree) if isinstance(node, ast.Name) and isinstance(node.ctx, ast.Load)}
            self.assertLessEqual(read - bound, BUILTINS, name)
            self.assertNotIn("_", read, name)

    def test_nothing_calls_itself(self):
        # Forms that are told may be deeper than calls may stand within one another.
        for name, tree in self.trees():
            for node in ast.walk(tree):
                if isinstance(node, ast.FunctionDef) and not node.name.startswith("__"):
                    called = [inner.func for inner in ast.walk(node) if isinstance(inner, ast.Call)]
                    names = [func.id if isinstance(func, ast.Name) else func.attr for func in called]
                    self.assertNotIn(node.name, names, (name, node.name))


if __name__ == "__main__":
    unittest.main()
