"""The rules of the language that a program can look at: files, imports, sizes, names, builtins and methods."""

import ast
import builtins
import unittest
from pathlib import Path

PACKAGE = Path(__file__).resolve().parent.parent / "selfsort"
LIBRARY = {
    "heapq": {"heappush", "heappop", "heapify", "heapreplace", "heappushpop"},
    "math": {"gcd", "lcm", "isqrt", "comb", "perm", "factorial"},
    "itertools": {
        "product", "combinations", "permutations", "chain", "accumulate", "pairwise", "islice", "zip_longest",
    },
    "collections": {"defaultdict", "deque"},
}
BUILTINS = set("""
    len range enumerate zip min max sum abs sorted reversed int str bool list tuple dict set isinstance ord repr
    any all divmod pow iter next map type super getattr hasattr setattr property staticmethod classmethod
    Exception ValueError TypeError KeyError IndexError LookupError ZeroDivisionError ArithmeticError OverflowError
    RuntimeError NotImplementedError AttributeError StopIteration NotImplemented
""".split())
# doctest leaves a name _ behind among the builtins.
BUILTIN_NAMES = set(dir(builtins)) - {"_"}
METHODS = set("""
    append clear copy count endswith extend find get index insert isalnum isalpha isdigit islower isspace isupper
    items join keys ljust lower lstrip partition pop remove replace reverse rfind rjust rpartition rsplit rstrip
    setdefault split splitlines startswith strip update upper values zfill bit_length __init__
""".split())
BARRED_NAMES = set("""
    register mro elements open input law version_info with_traceback add_note attrgetter breakpoint compile copyright
    credits delattr dir eval exec exit gc globals help id importlib license locals methodcaller os quit vars sys
    typing enum Enum Flag Generic Protocol ABC namedtuple dataclass overload contextmanager
    _cold _tuplegetter _outside _record _written_out _member_names
""".split())
BARRED_NODES = (
    ast.AsyncFunctionDef, ast.Await, ast.Global, ast.Import, ast.Div, ast.GeneratorExp, ast.Yield, ast.YieldFrom,
    ast.Try, ast.With, ast.Lambda, ast.Set, ast.Starred, ast.JoinedStr, ast.NamedExpr, ast.Nonlocal, ast.Match,
)


def files():
    """The files of the package."""
    return sorted(PACKAGE.rglob("*.py"))


def trees():
    """The names of the files of the package, each with the tree of its text."""
    return [(path.name, ast.parse(path.read_text(encoding="ascii"))) for path in files()]


def nodes(kinds):
    """All nodes of these kinds in the package, each with its file's name."""
    return [(name, node) for name, tree in trees() for node in ast.walk(tree) if isinstance(node, kinds)]


def bound_in_functions(tree):
    """The names that functions bind: parameters, variables and loop variables."""
    functions = [node for node in ast.walk(tree) if isinstance(node, ast.FunctionDef)]
    inner = [node for function in functions for node in ast.walk(function)]
    names = {node.arg for node in inner if isinstance(node, ast.arg)}
    return names | {node.id for node in inner if isinstance(node, ast.Name) and isinstance(node.ctx, ast.Store)}


def defined_in(tree):
    """The names of the functions, classes and values that stand at the level of the module."""
    values = {target.id for node in tree.body if isinstance(node, ast.Assign) for target in node.targets}
    return values | {node.name for node in tree.body if isinstance(node, (ast.FunctionDef, ast.ClassDef))}


def parents(tree):
    """A dict from each node to the one that holds it."""
    return {inner: node for node in ast.walk(tree) for inner in ast.iter_child_nodes(node)}


def is_call(node, names):
    """True if the node calls a function with one of the names."""
    return isinstance(node, ast.Call) and isinstance(node.func, ast.Name) and node.func.id in names


class TestFiles(unittest.TestCase):
    def test_the_package_holds_nothing_else(self):
        for path in PACKAGE.rglob("*"):
            if path.is_file() and "__pycache__" not in path.parts:
                self.assertEqual(path.suffix, ".py", path)

    def test_sizes_and_characters(self):
        for path in files():
            lines = path.read_text(encoding="ascii").split("\n")
            self.assertLessEqual(len(lines) - 1, 399, path)
            for number, line in enumerate(lines, start=1):
                self.assertLessEqual(len(line), 120, f"{path}:{number}")
                self.assertTrue(all(" " <= sign <= "~" for sign in line), f"{path}:{number}")

    def test_sizes_of_functions(self):
        for name, node in nodes(ast.FunctionDef):
            self.assertLessEqual(node.end_lineno - node.lineno + 1, 40, f"{name}: {node.name}")


class TestImports(unittest.TestCase):
    def test_imports(self):
        for name, node in nodes(ast.ImportFrom):
            self.assertEqual(node.level, 0, name)
            for imported in node.names:
                self.assertIsNone(imported.asname, name)
                if not node.module.startswith("selfsort."):
                    self.assertIn(imported.name, LIBRARY[node.module], name)

    def test_each_name_comes_from_the_file_that_defines_it(self):
        defined = {name: defined_in(tree) for name, tree in trees()}
        for name, node in nodes(ast.ImportFrom):
            if node.module.startswith("selfsort."):
                for imported in node.names:
                    self.assertIn(imported.name, defined[node.module.split(".")[1] + ".py"], name)

    def test_no_two_files_import_from_each_other(self):
        left = {name: set() for name, _ in trees()}
        for name, node in nodes(ast.ImportFrom):
            if node.module.startswith("selfsort."):
                left[name].add(node.module.split(".")[1] + ".py")
        while left:
            free = [name for name, needed in left.items() if not needed & set(left)]
            self.assertTrue(free, sorted(left))
            left = {name: needed for name, needed in left.items() if name not in free}


class TestWords(unittest.TestCase):
    def test_statements_and_expressions_that_are_not_used(self):
        # A lambda may be the key of max or sorted.
        keys = {node.value for _, node in nodes(ast.keyword) if node.arg == "key"}
        at = {ast.dump(node) for node in keys}
        found = [(name, node.lineno) for name, node in nodes(BARRED_NODES) if ast.dump(node) not in at]
        self.assertEqual(found, [])

    def test_no_decorators(self):
        for name, node in nodes((ast.FunctionDef, ast.ClassDef)):
            self.assertEqual(node.decorator_list, [], name)

    def test_no_floats_and_no_signs_that_are_barred_in_texts(self):
        for name, node in nodes(ast.Constant):
            self.assertNotIsInstance(node.value, (float, complex), name)
            self.assertNotIn("%", str(node.value), name)

    def test_builtins(self):
        for name, node in nodes(ast.Name):
            if node.id in BUILTIN_NAMES:
                self.assertIsInstance(node.ctx, ast.Load, f"{name}:{node.lineno}")
                self.assertIn(node.id, BUILTINS, f"{name}:{node.lineno}")

    def test_no_parameter_is_called_like_a_builtin(self):
        for name, node in nodes(ast.arg):
            self.assertNotIn(node.arg, BUILTIN_NAMES, f"{name}:{node.lineno}")

    def test_keywords_of_builtins(self):
        for name, node in nodes(ast.Call):
            if isinstance(node.func, ast.Name) and node.func.id in BUILTINS:
                for keyword in node.keywords:
                    self.assertIn(keyword.arg, ("key", "reverse", "default", "start", "strict"), name)

    def test_barred_names(self):
        for name, tree in trees():
            for node in ast.walk(tree):
                for word in (getattr(node, "id", ""), getattr(node, "attr", ""), getattr(node, "name", "")):
                    self.assertNotIn(word, BARRED_NAMES, name)

    def test_no_variable_has_the_name_of_an_import_or_a_class(self):
        for name, tree in trees():
            taken = {node.name for node in ast.walk(tree) if isinstance(node, (ast.alias, ast.ClassDef))}
            self.assertEqual(bound_in_functions(tree) & taken, set(), name)

    def test_methods(self):
        own = {inner.name for _, node in nodes(ast.ClassDef) for inner in node.body if hasattr(inner, "name")}
        for name, node in nodes(ast.Call):
            if isinstance(node.func, ast.Attribute):
                self.assertIn(node.func.attr, METHODS | own, f"{name}:{node.lineno}")

    def test_is_stands_beside_none_true_false_or_a_kind(self):
        for name, node in nodes(ast.Compare):
            if isinstance(node.ops[0], (ast.Is, ast.IsNot)):
                other = node.comparators[0]
                constant = isinstance(other, ast.Constant) and other.value in (None, True, False)
                self.assertTrue(constant or is_call(node.left, ["type"]), f"{name}:{node.lineno}")

    def test_sets_are_sorted_or_measured_at_once(self):
        for name, tree in trees():
            above = parents(tree)
            for node in ast.walk(tree):
                if isinstance(node, ast.SetComp) or is_call(node, ["set"]):
                    self.assertTrue(is_call(above[node], ["sorted", "len"]), f"{name}:{node.lineno}")
                if is_call(node, ["type"]):
                    self.assertIsInstance(above[node], ast.Compare, f"{name}:{node.lineno}")


if __name__ == "__main__":
    unittest.main()
