"""The rules of the language that a program can look at: files, imports, sizes, names and builtins."""

import ast
import builtins
import unittest
from pathlib import Path

PACKAGE = Path(__file__).resolve().parent.parent / "selfsort"
LIBRARY = {
    "heapq": {"heappush", "heappop", "heapify", "heapreplace", "heappushpop"},
    "math": {"gcd", "lcm", "isqrt", "comb", "perm", "factorial"},
    "itertools": {
        "product", "combinations", "permutations", "chain", "accumulate", "pairwise", "islice", "zip_longest",
    },
    "collections": {"defaultdict", "deque"},
}
BUILTINS = set("""
    len range enumerate zip min max sum abs sorted reversed int str bool list tuple dict set isinstance ord repr
    any all divmod pow iter next map type super getattr hasattr setattr property staticmethod classmethod
    Exception ValueError TypeError KeyError IndexError LookupError ZeroDivisionError ArithmeticError OverflowError
    RuntimeError NotImplementedError AttributeError StopIteration NotImplemented
""".split())
BARRED_NODES = (
    ast.AsyncFunctionDef, ast.Await, ast.Global, ast.Import, ast.Div, ast.GeneratorExp, ast.Yield, ast.YieldFrom,
)


def files():
    """The files of the package."""
    return sorted(PACKAGE.rglob("*.py"))


def nodes(kinds):
    """All nodes of these kinds in the package, each with its file's name."""
    for path in files():
        for node in ast.walk(ast.parse(path.read_text(encoding="ascii"))):
            if isinstance(node, kinds):
                yield path.name, node


class TestFiles(unittest.TestCase):
    def test_the_package_holds_nothing_else(self):
        for path in PACKAGE.rglob("*"):
            if path.is_file() and "__pycache__" not in path.parts:
                self.assertEqual(path.suffix, ".py", path)

    def test_sizes_and_characters(self):
        for path in files():
            lines = path.read_text(encoding="ascii").split("\n")
            self.assertLessEqual(len(lines) - 1, 399, path)
            for number, line in enumerate(lines, start=1):
                self.assertLessEqual(len(line), 120, f"{path}:{number}")
                self.assertTrue(all(" " <= sign <= "~" for sign in line), f"{path}:{number}")

    def test_sizes_of_functions(self):
        for name, node in nodes(ast.FunctionDef):
            self.assertLessEqual(node.end_lineno - node.lineno + 1, 40, f"{name}: {node.name}")


class TestWords(unittest.TestCase):
    def test_imports(self):
        for name, node in nodes(ast.ImportFrom):
            self.assertEqual(node.level, 0, name)
            for imported in node.names:
                self.assertIsNone(imported.asname, name)
                if not node.module.startswith("selfsort."):
                    self.assertIn(imported.name, LIBRARY[node.module], name)

    def test_statements_and_expressions_that_are_not_used(self):
        self.assertEqual([(name, node.lineno) for name, node in nodes(BARRED_NODES)], [])

    def test_no_floats(self):
        for name, node in nodes(ast.Constant):
            self.assertNotIsInstance(node.value, (float, complex), name)

    def test_builtins(self):
        for name, node in nodes(ast.Name):
            if hasattr(builtins, node.id):
                self.assertIsInstance(node.ctx, ast.Load, f"{name}:{node.lineno}")
                self.assertIn(node.id, BUILTINS, f"{name}:{node.lineno}")

    def test_no_parameter_is_called_like_a_builtin(self):
        for name, node in nodes(ast.arg):
            self.assertFalse(hasattr(builtins, node.arg), f"{name}:{node.lineno}")


if __name__ == "__main__":
    unittest.main()
