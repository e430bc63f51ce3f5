"""The rules of LANGUAGE.md that a short look at the files can tell; the other ones are the writer's care."""

import ast
import builtins
import pathlib
import unittest

PACKAGE = pathlib.Path(__file__).resolve().parent.parent / "heapgame"
LIBRARY = {
    "heapq": {"heappush", "heappop", "heapify", "heapreplace", "heappushpop"},
    "math": {"gcd", "lcm", "isqrt", "comb", "perm", "factorial"},
    "itertools": {"product", "combinations", "permutations", "chain", "accumulate", "pairwise", "islice", "zip_longest"},
    "collections": {"defaultdict"},
    "__future__": {"annotations"},
}
BUILTINS = set(
    "len range enumerate zip min max sum abs sorted reversed int str bool list tuple dict set isinstance ord repr any "
    "all divmod pow getattr hasattr setattr iter next map super Exception ValueError TypeError KeyError IndexError "
    "LookupError ZeroDivisionError ArithmeticError OverflowError RuntimeError NotImplementedError AttributeError "
    "StopIteration NotImplemented".split())
BARRED = (ast.Global, ast.AsyncFunctionDef, ast.Await, ast.AsyncFor, ast.AsyncWith, ast.Div, ast.Import)


class FormTest(unittest.TestCase):
    def setUp(self):
        self.paths = sorted(path for path in PACKAGE.rglob("*") if "__pycache__" not in path.parts)
        self.trees = {path: ast.parse(path.read_text("utf-8")) for path in self.paths if path.suffix == ".py"}

    def test_files(self):
        """L1, L14."""
        self.assertIn(PACKAGE / "__init__.py", self.paths)
        for path in self.paths:
            self.assertTrue(path.is_file() and path.suffix == ".py" and path.name.islower(), path)

    def test_lines(self):
        """L10, L14."""
        for path in self.trees:
            text = path.read_text("utf-8")
            lines = text.split("\n")
            self.assertLess(len(lines), 400, path)
            self.assertEqual([line for line in lines if len(line) > 120], [], path)
            self.assertEqual([letter for letter in text if letter != "\n" and not " " <= letter <= "~"], [], path)

    def test_functions(self):
        """L10."""
        for path, tree in self.trees.items():
            for node in ast.walk(tree):
                if isinstance(node, ast.FunctionDef):
                    self.assertLessEqual(node.end_lineno - node.lineno + 1, 40, (path, node.name))

    def test_imports(self):
        """L2, L16."""
        modules = {f"heapgame.{path.stem}" for path in self.trees}
        for path, tree in self.trees.items():
            for node in ast.walk(tree):
                if isinstance(node, ast.ImportFrom):
                    names = {name.name for name in node.names}
                    good = node.level == 0 and (node.module in modules or names <= LIBRARY.get(node.module, set()))
                    self.assertTrue(good and "*" not in names, (path, node.lineno))

    def test_statements(self):
        """L6, L7."""
        for path, tree in self.trees.items():
            for node in ast.walk(tree):
                self.assertNotIsInstance(node, BARRED, (path, getattr(node, "lineno", None)))
                if isinstance(node, ast.Constant):
                    self.assertNotIsInstance(node.value, (float, complex), (path, node.lineno))

    def test_builtins(self):
        """L8, L15."""
        for path, tree in self.trees.items():
            for node in ast.walk(tree):
                if isinstance(node, ast.Name) and hasattr(builtins, node.id):
                    self.assertIn(node.id, BUILTINS, (path, node.lineno))
                    self.assertIsInstance(node.ctx, ast.Load, (path, node.lineno))
                if isinstance(node, ast.arg):
                    self.assertFalse(hasattr(builtins, node.arg), (path, node.lineno))


if __name__ == "__main__":
    unittest.main()
