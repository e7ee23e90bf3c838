"""The rules of the language subset that a test can see: sizes, signs, imports, what stands in the package's folder."""

import ast
import unittest
from pathlib import Path

FOLDER = Path(__file__).resolve().parent.parent / "tenturns"
FILES = sorted(FOLDER.glob("*.py"))
LIBRARY = {"heapq", "math", "itertools", "collections", "__future__"}
BUILTINS = set(
    "len range enumerate zip min max sum abs sorted reversed int str bool bytes list tuple dict set frozenset isinstance"
    " ord repr any all divmod pow getattr hasattr setattr iter next map super property staticmethod classmethod"
    " Exception ValueError TypeError KeyError IndexError LookupError ZeroDivisionError ArithmeticError OverflowError"
    " RuntimeError NotImplementedError AttributeError StopIteration NotImplemented".split()
)
OTHER_BUILTINS = set(dir(__builtins__) if not isinstance(__builtins__, dict) else __builtins__) - BUILTINS


class TestLanguage(unittest.TestCase):
    def trees(self):
        return [(path.name, ast.parse(path.read_text("utf-8"))) for path in FILES]

    def test_the_folder_holds_python_files_alone(self):
        names = sorted(path.name for path in FOLDER.iterdir() if path.name != "__pycache__")
        self.assertEqual(names, [path.name for path in FILES])
        self.assertIn("__init__.py", names)

    def test_sizes_and_characters(self):
        for path in FILES:
            text = path.read_text("utf-8")
            self.assertLessEqual(len(text.splitlines()), 399, path.name)
            for line in text.split("\n"):
                self.assertLessEqual(len(line), 120, path.name)
                self.assertTrue(all(" " <= sign <= "~" for sign in line), (path.name, line))

    def test_functions_have_at_most_40_lines(self):
        for name, tree in self.trees():
            for node in ast.walk(tree):
                if isinstance(node, ast.FunctionDef):
                    self.assertLessEqual(node.end_lineno - node.lineno + 1, 40, (name, node.name))

    def test_imports(self):
        for name, tree in self.trees():
            for node in ast.walk(tree):
                self.assertNotIsInstance(node, ast.Import, name)
                if isinstance(node, ast.ImportFrom):
                    self.assertIn(node, tree.body)
                    self.assertEqual(node.level, 0)
                    self.assertTrue(node.module in LIBRARY or node.module.startswith("tenturns."), (name, node.module))

    def test_no_two_files_import_from_each_other(self):
        asked = {}
        for name, tree in self.trees():
            froms = [node.module for node in ast.walk(tree) if isinstance(node, ast.ImportFrom)]
            asked[name] = {module.split(".")[1] + ".py" for module in froms if module.startswith("tenturns.")}
        while asked:
            free = [name for name in asked if not asked[name] & set(asked)]
            self.assertTrue(free, asked)
            for name in free:
                del asked[name]

    def test_what_is_imported_is_defined_in_that_file(self):
        trees = {f"tenturns.{name[:-3]}": tree for name, tree in self.trees()}
        for name, tree in self.trees():
            for node in tree.body:
                if isinstance(node, ast.ImportFrom) and node.module in trees:
                    for alias in node.names:
                        self.assertIn(alias.name, self.bound(trees[node.module]), name)
                        self.assertIsNone(alias.asname)

    def bound(self, tree):
        names = [node.name for node in tree.body if isinstance(node, (ast.FunctionDef, ast.ClassDef))]
        names.extend(node.targets[0].id for node in tree.body if isinstance(node, ast.Assign))
        return names

    def test_no_name_is_a_method_and_an_attribute(self):
        for name, tree in self.trees():
            for made in [node for node in tree.body if isinstance(node, ast.ClassDef)]:
                methods = [node.name for node in made.body if isinstance(node, ast.FunctionDef)]
                self.assertEqual(len(methods), len(set(methods)), name)
                for node in ast.walk(made):
                    if isinstance(node, ast.Attribute) and isinstance(node.ctx, ast.Store):
                        self.assertNotIn(node.attr, methods, name)

    def test_no_generator_expressions_and_no_global(self):
        for name, tree in self.trees():
            for node in ast.walk(tree):
                self.assertNotIsInstance(node, (ast.GeneratorExp, ast.Global, ast.AsyncFunctionDef), name)

    def test_strings_have_no_percent_sign(self):
        for name, tree in self.trees():
            for node in ast.walk(tree):
                if isinstance(node, ast.Constant) and isinstance(node.value, str):
                    self.assertNotIn("%", node.value, name)

    def test_no_local_name_hides_one_of_the_file(self):
        for name, tree in self.trees():
            above = [node.name for node in tree.body if isinstance(node, (ast.FunctionDef, ast.ClassDef))]
            for node in tree.body:
                if isinstance(node, ast.ImportFrom):
                    above.extend(alias.asname or alias.name for alias in node.names)
            self.assertEqual(len(above), len(set(above)), name)
            for node in ast.walk(tree):
                if isinstance(node, ast.Name) and isinstance(node.ctx, ast.Store):
                    self.assertNotIn(node.id, above, name)
                if isinstance(node, ast.arg):
                    self.assertNotIn(node.arg, above, name)

    def test_builtins(self):
        for name, tree in self.trees():
            for node in ast.walk(tree):
                if isinstance(node, ast.Name):
                    self.assertNotIn(node.id, OTHER_BUILTINS, name)
                if isinstance(node, ast.Name) and isinstance(node.ctx, ast.Store):
                    self.assertNotIn(node.id, BUILTINS, name)
                if isinstance(node, ast.arg):
                    self.assertNotIn(node.arg, BUILTINS | OTHER_BUILTINS, name)


if __name__ == "__main__":
    unittest.main()
