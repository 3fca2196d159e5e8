"""Rules of the language of the package that a short program can check."""

import ast
import pathlib
import unittest

import doorkeys

FOLDER = pathlib.Path(doorkeys.__file__).parent
BUILTINS = set(
    "len range enumerate zip min max sum abs sorted reversed int str bool bytes list tuple dict set frozenset "
    "isinstance ord repr any all divmod pow getattr hasattr setattr Exception ValueError TypeError KeyError "
    "IndexError LookupError ZeroDivisionError ArithmeticError OverflowError RuntimeError NotImplementedError "
    "AttributeError StopIteration NotImplemented property staticmethod classmethod super iter next map".split()
)
LIBRARY = ("heapq", "math", "itertools", "collections")
DECORATORS = ("property", "staticmethod", "classmethod")
BARRED = (ast.AsyncFunctionDef, ast.Global, ast.Import, ast.Await)
FILES = sorted(FOLDER.rglob("*.py"))


def all_nodes(kinds):
    """Yield each file and each node of these kinds in it."""
    for path in FILES:
        for node in ast.walk(ast.parse(path.read_text("utf-8"))):
            if isinstance(node, kinds):
                yield path.name, node


class LanguageTest(unittest.TestCase):
    def test_files(self):
        self.assertIn("houses.py", [path.name for path in FILES])
        for path in FILES:
            lines = path.read_text("utf-8").split("\n")
            self.assertLessEqual(len(lines), 399, path)
            for line in lines:
                self.assertLessEqual(len(line), 120, path)
                self.assertTrue(all(" " <= character <= "~" for character in line), (path, line))

    def test_functions_are_short(self):
        for name, node in all_nodes(ast.FunctionDef):
            self.assertLessEqual(node.end_lineno - node.lineno + 1, 40, (name, node.name))

    def test_statements_and_literals(self):
        for name, node in all_nodes(BARRED):
            self.fail((name, node.lineno))
        for name, node in all_nodes((ast.Div, ast.MatMult)):
            self.fail((name, node))
        for name, node in all_nodes(ast.Constant):
            self.assertNotIsInstance(node.value, (float, complex), (name, node.lineno))
            if isinstance(node.value, str):
                self.assertNotIn("%", node.value, (name, node.lineno))

    def test_decorators(self):
        for name, node in all_nodes((ast.FunctionDef, ast.ClassDef)):
            for decorator in node.decorator_list:
                setter = isinstance(decorator, ast.Attribute) and decorator.attr == "setter"
                self.assertTrue(setter or decorator.id in DECORATORS, (name, node.name))

    def test_imports(self):
        for name, node in all_nodes(ast.ImportFrom):
            self.assertEqual(node.level, 0)
            self.assertTrue(node.module in LIBRARY or node.module.startswith("doorkeys."), (name, node.module))

    def test_module_level(self):
        allowed = (ast.ImportFrom, ast.FunctionDef, ast.ClassDef, ast.Assign, ast.Expr)
        for path in FILES:
            for node in ast.parse(path.read_text("utf-8")).body:
                self.assertIsInstance(node, allowed, path)
                if isinstance(node, ast.Expr):
                    self.assertIsInstance(node.value, ast.Constant, path)

    def test_builtins(self):
        python_names = set(dir(__import__("builtins")))
        for name, node in all_nodes(ast.Name):
            if node.id in python_names:
                self.assertIn(node.id, BUILTINS, (name, node.lineno))
                self.assertIsInstance(node.ctx, ast.Load, (name, node.lineno))


if __name__ == "__main__":
    unittest.main()
