"""Some rules of the subset of Python that the package keeps to, as far as a test sees them."""

import ast
import pathlib
import unittest

FOLDER = pathlib.Path(__file__).resolve().parent.parent / "usecounts"
FILES = sorted(FOLDER.rglob("*.py"))
BUILTINS = {
    "len", "range", "enumerate", "zip", "min", "max", "sum", "abs", "sorted", "reversed", "int", "str", "bool", "bytes", "list",
    "tuple", "dict", "set", "isinstance", "ord", "repr", "any", "all", "divmod", "ValueError", "KeyError", "TypeError",
}
IMPORTED = {
    "math": {"gcd", "lcm", "isqrt", "comb", "perm", "factorial"}, "heapq": {"heappush", "heappop", "heapify"},
    "itertools": {"product", "combinations", "permutations", "chain", "accumulate", "pairwise", "islice", "zip_longest"},
    "collections": {"defaultdict"},
}
FORBIDDEN = (
    ast.Global, ast.AsyncFunctionDef, ast.AsyncFor, ast.AsyncWith, ast.Await, ast.Import, ast.Div, ast.AnnAssign,
)


class LanguageTest(unittest.TestCase):

    def nodes(self):
        for file in FILES:
            for node in ast.walk(ast.parse(file.read_text())):
                yield file.name, node

    def test_files(self):
        self.assertEqual([path.name for path in FOLDER.iterdir() if path.suffix != ".py" and path.name != "__pycache__"], [])
        for file in FILES:
            text = file.read_bytes().decode("ascii")
            self.assertLessEqual(text.count("\n"), 399, file.name)
            self.assertTrue(all(" " <= sign <= "~" or sign == "\n" for sign in text), file.name)
            self.assertLessEqual(max(map(len, text.split("\n"))), 120, file.name)

    def test_functions_are_small(self):
        for name, node in self.nodes():
            if isinstance(node, ast.FunctionDef):
                self.assertLessEqual(node.end_lineno - node.lineno + 1, 40, (name, node.name))

    def test_statements(self):
        for name, node in self.nodes():
            self.assertNotIsInstance(node, FORBIDDEN, (name, getattr(node, "lineno", 0)))
            if isinstance(node, ast.Constant):
                self.assertNotIsInstance(node.value, (float, complex))

    def test_imports(self):
        for name, node in self.nodes():
            if isinstance(node, ast.ImportFrom):
                self.assertEqual(node.level, 0, name)
                if not node.module.startswith("usecounts."):
                    self.assertLessEqual({alias.name for alias in node.names}, IMPORTED[node.module], name)

    def test_builtins(self):
        known = set(dir(__builtins__) if not isinstance(__builtins__, dict) else __builtins__)
        for name, node in self.nodes():
            if isinstance(node, ast.Name) and node.id in known:
                self.assertIn(node.id, BUILTINS, name)


if __name__ == "__main__":
    unittest.main()
