"""Rules of the language of the package that a short program can check."""

import ast
import pathlib
import unittest

import doorkeys

FOLDER = pathlib.Path(doorkeys.__file__).parent
BUILTINS = set(
    "len range enumerate zip min max sum abs sorted reversed int str bool bytes list tuple dict set frozenset "
    "isinstance ord repr any all divmod pow getattr hasattr setattr Exception ValueError TypeError KeyError "
    "IndexError LookupError ZeroDivisionError ArithmeticError OverflowError RuntimeError NotImplementedError "
    "AttributeError StopIteration NotImplemented property staticmethod classmethod super iter next map".split()
)
LIBRARY = ("heapq", "math", "itertools", "collections")
DECORATORS = ("property", "staticmethod", "classmethod")
BARRED = (ast.AsyncFunctionDef, ast.Global, ast.Import, ast.Await)
BARRED_NAMES = ("register", "mro", "elements", "open", "input", "law", "version_info", "with_traceback", "add_note")
FILES = sorted(FOLDER.rglob("*.py"))


def all_nodes(kinds):
    """Yield each file and each node of these kinds in it."""
    for path in FILES:
        for node in ast.walk(ast.parse(path.read_text("utf-8"))):
            if isinstance(node, kinds):
                yield path.name, node


class LanguageTest(unittest.TestCase):
    def test_files(self):
        self.assertIn("houses.py", [path.name for path in FILES])
        for path in FILES:
            lines = path.read_text("utf-8").split("\n")
            self.assertLessEqual(len(lines), 399, path)
            for line in lines:
                self.assertLessEqual(len(line), 120, path)
                self.assertTrue(all(" " <= character <= "~" for character in line), (path, line))

    def test_functions_are_short(self):
        for name, node in all_nodes(ast.FunctionDef):
            self.assertLessEqual(node.end_lineno - node.lineno + 1, 40, (name, node.name))

    def test_statements_and_literals(self):
        for name, node in all_nodes(BARRED):
            self.fail((name, node.lineno))
        for name, node in all_nodes((ast.Div, ast.MatMult)):
            self.fail((name, node))
        for name, node in all_nodes(ast.Constant):
            self.assertNotIsInstance(node.value, (float, complex), (name, node.lineno))
            if isinstance(node.value, str):
                self.assertNotIn("%", node.value, (name, node.lineno))

    def test_decorators(self):
        for name, node in all_nodes((ast.FunctionDef, ast.ClassDef)):
            for decorator in node.decorator_list:
                setter = isinstance(decorator, ast.Attribute) and decorator.attr == "setter"
                self.assertTrue(setter or decorator.id in DECORATORS, (name, node.name))

    def test_imports(self):
        for name, node in all_nodes(ast.ImportFrom):
            self.assertEqual(node.level, 0)
            self.assertTrue(node.module in LIBRARY or node.module.startswith("doorkeys."), (name, node.module))

    def test_module_level(self):
        allowed = (ast.ImportFrom, ast.FunctionDef, ast.ClassDef, ast.Assign, ast.Expr)
        for path in FILES:
            for node in ast.parse(path.read_text("utf-8")).body:
                self.assertIsInstance(node, allowed, path)
                if isinstance(node, ast.Expr):
                    self.assertIsInstance(node.value, ast.Constant, path)

    def test_builtins(self):
        python_names = set(dir(__import__("builtins")))
        for name, node in all_nodes(ast.Name):
            if node.id in python_names:
                self.assertIn(node.id, BUILTINS, (name, node.lineno))
                self.assertIsInstance(node.ctx, ast.Load, (name, node.lineno))


    def test_barred_names(self):
        for name, node in all_nodes((ast.Name, ast.Attribute, ast.arg, ast.FunctionDef, ast.ClassDef, ast.keyword)):
            for field in ("id", "attr", "arg", "name"):
                self.assertNotIn(getattr(node, field, None), BARRED_NAMES, (name, node.lineno))

    def test_local_names(self):
        for path in FILES:
            tree = ast.parse(path.read_text("utf-8"))
            taken = {node.name for node in tree.body if isinstance(node, (ast.FunctionDef, ast.ClassDef))}
            for node in tree.body:
                if isinstance(node, ast.ImportFrom):
                    taken |= {alias.name for alias in node.names}
            for node in ast.walk(tree):
                if isinstance(node, ast.arg):
                    self.assertNotIn(node.arg, taken, (path.name, node.lineno))
                if isinstance(node, ast.Name) and isinstance(node.ctx, ast.Store):
                    self.assertNotIn(node.id, taken, (path.name, node.lineno))

    def test_imports_are_used(self):
        for path in FILES:
            tree = ast.parse(path.read_text("utf-8"))
            used = {node.id for node in ast.walk(tree) if isinstance(node, ast.Name)}
            for node in tree.body:
                if isinstance(node, ast.ImportFrom):
                    self.assertLessEqual({alias.name for alias in node.names}, used, path.name)


if __name__ == "__main__":
    unittest.main()
