"""Some rules of the subset of Python that the package keeps to, as far as a test sees them."""

import ast
import builtins
import io
import pathlib
import tokenize
import unittest

FOLDER = pathlib.Path(__file__).resolve().parent.parent / "usecounts"
FILES = sorted(FOLDER.rglob("*.py"))
BUILTINS = {
    "len", "range", "enumerate", "zip", "min", "max", "sum", "abs", "sorted", "reversed", "int", "str", "bool", "bytes", "list",
    "tuple", "dict", "set", "isinstance", "ord", "repr", "any", "all", "divmod", "ValueError", "KeyError", "TypeError", "property",
}
OWN_ERRORS = {"CountsError"}
IMPORTED = {
    "math": {"gcd", "lcm", "isqrt", "comb", "perm", "factorial"}, "heapq": {"heappush", "heappop", "heapify"},
    "itertools": {"product", "combinations", "permutations", "chain", "accumulate", "pairwise", "islice", "zip_longest"},
    "collections": {"defaultdict"},
}
FORBIDDEN = (
    ast.Global, ast.AsyncFunctionDef, ast.AsyncFor, ast.AsyncWith, ast.Await, ast.Import, ast.Div, ast.AnnAssign, ast.Lambda, ast.TryStar,
    ast.With, ast.Match, ast.Yield, ast.YieldFrom, ast.GeneratorExp, ast.JoinedStr, ast.NamedExpr, ast.Delete, ast.Nonlocal,
)
BUILTIN_METHODS = {
    "append", "clear", "copy", "count", "endswith", "extend", "find", "get", "index", "insert", "isalnum", "isalpha", "isdigit",
    "islower", "isspace", "isupper", "items", "join", "keys", "ljust", "lower", "lstrip", "partition", "pop", "remove", "replace",
    "reverse", "rfind", "rjust", "rpartition", "rsplit", "rstrip", "setdefault", "split", "splitlines", "startswith", "strip",
    "update", "upper", "values", "zfill", "bit_length", "add", "discard",
}
WORDS_NOWHERE = {
    "register", "mro", "elements", "open", "input", "law", "version_info", "with_traceback", "add_note", "attrgetter", "breakpoint",
    "builtins", "compile", "copyright", "credits", "delattr", "dir", "eval", "exec", "exit", "gc", "getattr", "globals", "hasattr",
    "help", "id", "importlib", "license", "locals", "methodcaller", "os", "quit", "setattr", "super", "type", "vars", "sys", "typing",
    "enum", "Enum", "Flag", "Generic", "Protocol", "ABC", "namedtuple", "dataclass", "overload", "contextmanager", "iter", "next",
    "map", "chr", "format", "global",
}
ATTRIBUTES_NOWHERE = {
    "items", "keys", "values", "pop", "update", "append", "clear", "extend", "insert", "remove", "reverse", "setdefault", "sort",
    "args", "encode", "decode", "hex", "fromhex", "format", "is_integer", "conjugate", "real", "imag", "numerator", "denominator",
}


def assigned_names(node):
    """The names that parameters, assignments, loops and functions give within a node."""
    for inner in ast.walk(node):
        if isinstance(inner, ast.arg):
            yield inner.arg
        if isinstance(inner, ast.Name) and not isinstance(inner.ctx, ast.Load):
            yield inner.id


class LanguageTest(unittest.TestCase):

    def trees(self):
        for file in FILES:
            yield file.name, ast.parse(file.read_text())

    def nodes(self):
        for name, tree in self.trees():
            for node in ast.walk(tree):
                yield name, node

    def test_files(self):
        self.assertEqual([path.name for path in FOLDER.iterdir() if path.suffix != ".py" and path.name != "__pycache__"], [])
        for file in FILES:
            text = file.read_bytes().decode("ascii")
            self.assertLessEqual(text.count("\n"), 399, file.name)
            self.assertTrue(all(" " <= sign <= "~" or sign == "\n" for sign in text), file.name)
            self.assertLessEqual(max(map(len, text.split("\n"))), 120, file.name)

    def test_functions_are_small(self):
        for name, node in self.nodes():
            if isinstance(node, ast.FunctionDef):
                self.assertLessEqual(node.end_lineno - node.lineno + 1, 40, (name, node.name))

    def test_statements(self):
        for name, node in self.nodes():
            self.assertNotIsInstance(node, FORBIDDEN, (name, getattr(node, "lineno", 0)))
            if isinstance(node, ast.Constant):
                self.assertNotIsInstance(node.value, (float, complex))
            if isinstance(node, ast.FunctionDef):
                self.assertLessEqual({getattr(item, "id", None) for item in node.decorator_list}, {"property", "staticmethod"})
            if isinstance(node, ast.Compare):
                for sign, right in zip(node.ops, node.comparators):
                    if isinstance(sign, (ast.Is, ast.IsNot)):
                        self.assertIsInstance(right, ast.Constant, (name, node.lineno))
            if isinstance(node, ast.Try):
                self.assertEqual(node.finalbody, [])
                for handler in node.handlers:
                    self.assertIn(handler.type.id, OWN_ERRORS, (name, node.lineno))

    def test_properties_only_read(self):
        properties = set()
        for name, node in self.nodes():
            if isinstance(node, ast.FunctionDef) and any(getattr(item, "id", None) == "property" for item in node.decorator_list):
                properties.add(node.name)
                self.assertEqual([type(inner) for inner in node.body], [ast.Expr, ast.Return], (name, node.name))
        self.assertEqual(properties, {"letters"})
        for name, node in self.nodes():
            if isinstance(node, ast.Attribute) and node.attr in properties:
                self.assertIsInstance(node.ctx, ast.Load, (name, node.lineno))

    def test_imports(self):
        reached = {}
        for name, node in self.nodes():
            if isinstance(node, ast.ImportFrom):
                self.assertEqual(node.level, 0, name)
                if node.module.startswith("usecounts."):
                    reached.setdefault(name[:-3], set()).add(node.module.split(".")[1])
                else:
                    self.assertLessEqual({alias.name for alias in node.names}, IMPORTED[node.module], name)
        done = set()
        while len(done) < len(FILES):
            more = [file.stem for file in FILES if file.stem not in done and reached.get(file.stem, set()) <= done]
            self.assertNotEqual(more, [], "imports in a ring")
            done.update(more)

    def test_imports_are_used(self):
        for name, tree in self.trees():
            read = {node.id for node in ast.walk(tree) if isinstance(node, ast.Name)}
            for node in tree.body:
                if isinstance(node, ast.ImportFrom):
                    self.assertLessEqual({alias.name for alias in node.names}, read, name)

    def test_imports_name_the_file_that_defines(self):
        defined = {}
        for name, tree in self.trees():
            for node in tree.body:
                if isinstance(node, (ast.FunctionDef, ast.ClassDef)):
                    defined.setdefault(name[:-3], set()).add(node.name)
                if isinstance(node, ast.Assign):
                    defined.setdefault(name[:-3], set()).add(node.targets[0].id)
        for name, node in self.nodes():
            if isinstance(node, ast.ImportFrom) and node.module.startswith("usecounts."):
                self.assertLessEqual({alias.name for alias in node.names}, defined[node.module.split(".")[1]], name)

    def test_builtins(self):
        for name, node in self.nodes():
            if isinstance(node, ast.Name) and node.id in dir(builtins):
                self.assertIn(node.id, BUILTINS, name)
                self.assertIsInstance(node.ctx, ast.Load, (name, node.id))
            if isinstance(node, ast.arg):
                self.assertNotIn(node.arg, dir(builtins), name)

    def test_names(self):
        for name, tree in self.trees():
            top = [node for node in tree.body if isinstance(node, (ast.FunctionDef, ast.ClassDef, ast.Assign))]
            bound = [node.targets[0].id if isinstance(node, ast.Assign) else node.name for node in top]
            imported = [alias.name for node in tree.body if isinstance(node, ast.ImportFrom) for alias in node.names]
            self.assertEqual(len(set(bound + imported)), len(bound + imported), name)
            barred = set(imported) | {node.name for node in top if isinstance(node, ast.ClassDef)}
            for node in top:
                if not isinstance(node, ast.Assign):
                    self.assertEqual(set(assigned_names(node)) & (barred | WORDS_NOWHERE), set(), (name, node.name))
            self.assertEqual(set(bound) & (WORDS_NOWHERE | set(dir(builtins))), set(), name)

    def test_words(self):
        for file in FILES:
            for token in tokenize.generate_tokens(io.StringIO(file.read_text()).readline):
                if token.type == tokenize.NAME:
                    self.assertNotIn(token.string, WORDS_NOWHERE, (file.name, token.start))
                if token.type == tokenize.STRING:
                    self.assertNotIn("%", token.string, (file.name, token.start))
                    self.assertNotIn("\\", token.string.replace("\\n", ""), (file.name, token.start))

    def test_methods_and_attributes(self):
        own, stored = set(), set()
        for name, node in self.nodes():
            if isinstance(node, ast.ClassDef):
                methods = [inner.name for inner in node.body if isinstance(inner, ast.FunctionDef)]
                self.assertEqual(len(set(methods)), len(methods), (name, node.name))
                attributes = {inner.attr for inner in ast.walk(node) if isinstance(inner, ast.Attribute) and not isinstance(inner.ctx, ast.Load)}
                self.assertEqual(attributes & (set(methods) | ATTRIBUTES_NOWHERE), set(), (name, node.name))
                own |= set(methods)
                stored |= attributes
        self.assertEqual(own & stored, set())
        for name, node in self.nodes():
            if isinstance(node, ast.Call) and isinstance(node.func, ast.Attribute):
                self.assertIn(node.func.attr, own | BUILTIN_METHODS, (name, node.lineno))
            elif isinstance(node, ast.Attribute):
                self.assertIn(node.attr, own | stored | BUILTIN_METHODS, (name, node.lineno))

    def test_sets(self):
        for name, tree in self.trees():
            allowed = set()
            for node in ast.walk(tree):
                if isinstance(node, ast.Call) and isinstance(node.func, ast.Name) and node.func.id in ("sorted", "len"):
                    allowed.update(map(id, node.args))
                if isinstance(node, ast.Compare):
                    allowed.update(map(id, node.comparators + [node.left]))
            for node in ast.walk(tree):
                is_call = isinstance(node, ast.Call) and isinstance(node.func, ast.Name) and node.func.id == "set"
                if is_call or isinstance(node, (ast.Set, ast.SetComp)):
                    self.assertIn(id(node), allowed, (name, node.lineno))

    def test_iterated_at_once(self):
        for name, tree in self.trees():
            allowed = set()
            for node in ast.walk(tree):
                if isinstance(node, (ast.For, ast.comprehension)):
                    allowed.add(id(node.iter))
                if isinstance(node, ast.Call) and isinstance(node.func, ast.Name):
                    if node.func.id in ("list", "tuple", "dict", "sorted", "sum", "any", "all", "enumerate", "zip"):
                        allowed.update(map(id, node.args))
                    if node.func.id == "reversed" and node.args[0].__class__ is ast.Call and node.args[0].func.id == "range":
                        allowed.update(map(id, node.args))
                if isinstance(node, ast.Assign) and isinstance(node.value, ast.Call) and getattr(node.value.func, "id", "") == "range":
                    allowed.add(id(node.value))
                if isinstance(node, ast.Compare):
                    allowed.update(id(inner) for inner in node.comparators if getattr(getattr(inner, "func", None), "id", "") == "range")
            for node in ast.walk(tree):
                if isinstance(node, ast.Call):
                    called = getattr(node.func, "id", getattr(node.func, "attr", ""))
                    if called in ("zip", "enumerate", "reversed", "range", "items", "keys", "values"):
                        self.assertIn(id(node), allowed, (name, node.lineno))


if __name__ == "__main__":
    unittest.main()
