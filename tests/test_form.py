"""The form of the package's files, as far as a short look at their trees can tell (rules L1 to L28)."""

import ast
import builtins
import re
import unittest
import warnings
from pathlib import Path

PACKAGE = Path(__file__).resolve().parent.parent / "figurehold"
LIBRARY = {
    "heapq": "heappush heappop heapify heapreplace heappushpop",
    "math": "gcd lcm isqrt comb perm factorial",
    "itertools": "product combinations permutations",
    "collections": "defaultdict",
}
BUILTINS = (
    "len range enumerate zip min max sum abs sorted reversed int str bool list tuple dict set isinstance ord repr"
    " any all divmod Exception ValueError TypeError KeyError IndexError LookupError ZeroDivisionError"
).split()
METHODS = (
    "append clear copy count endswith extend find get index insert isalnum isalpha isdigit islower isspace isupper"
    " items join keys ljust lower lstrip partition pop remove replace reverse rfind rjust rpartition rsplit rstrip"
    " setdefault split splitlines startswith strip update upper values zfill bit_length"
).split()
DUNDERS = ("__init__", "__eq__", "__repr__", "__str__", "__len__")
BARRED_NAMES = (
    "register mro elements open input law version_info with_traceback add_note attrgetter breakpoint builtins compile"
    " copyright credits delattr dir eval exec exit gc getattr globals hasattr help id importlib license locals"
    " methodcaller os quit setattr super type vars sys map next iter format"
).split()
BARRED_WORDS = (
    "type typing enum Enum IntEnum StrEnum Flag Generic Protocol ABC ABCMeta namedtuple NamedTuple TypedDict"
    " abstractmethod dataclass overload contextmanager _wall"
).split()
STATEMENTS = (
    ast.Assign, ast.AugAssign, ast.If, ast.While, ast.For, ast.Return, ast.Break, ast.Continue, ast.Pass, ast.Raise,
    ast.Assert, ast.Delete, ast.Try, ast.Expr, ast.FunctionDef, ast.ClassDef, ast.ImportFrom,
)


def files():
    return sorted(path for path in PACKAGE.rglob("*") if "__pycache__" not in path.parts)


def trees():
    return [(path, ast.parse(path.read_text())) for path in files()]


def nodes(tree, *kinds):
    return [node for node in ast.walk(tree) if isinstance(node, kinds)]


def defined(tree):
    """The names that a module binds, imports left out."""
    found = [node.name for node in tree.body if isinstance(node, (ast.FunctionDef, ast.ClassDef))]
    return found + [node.targets[0].id for node in tree.body if isinstance(node, ast.Assign)]


def imported(tree):
    return [name.name for node in nodes(tree, ast.ImportFrom) for name in node.names]


def bound_inside(tree):
    """Parameters and names that are assigned in functions."""
    found = [node.arg for node in nodes(tree, ast.arg)]
    for function in nodes(tree, ast.FunctionDef):
        found += [node.id for node in nodes(function, ast.Name) if not isinstance(node.ctx, ast.Load)]
    return found


class FormTest(unittest.TestCase):
    def test_files(self):
        for path in files():
            self.assertRegex(path.name, r"^[a-z_][a-z0-9_]*\.py$")
            text = path.read_text()
            self.assertRegex(text, r"^[ -~\n]*$", path.name)
            rows = text.split("\n")
            self.assertLess(len(rows), 400, path.name)
            self.assertLessEqual(max(len(row) for row in rows), 120, path.name)
            with warnings.catch_warnings():
                warnings.simplefilter("error")
                compile(text, path.name, "exec")

    def test_imports(self):
        known = {f"figurehold.{path.stem}": defined(tree) for path, tree in trees()}
        for path, tree in trees():
            self.assertFalse(nodes(tree, ast.Import), path.name)
            for node in nodes(tree, ast.ImportFrom):
                self.assertIn(node, tree.body)
                for name in node.names:
                    self.assertIsNone(name.asname)
                    let = LIBRARY[node.module].split() if node.module in LIBRARY else known[node.module]
                    self.assertIn(name.name, let, path.name)

    def test_no_imports_in_a_ring(self):
        needs = {
            path.stem: [node.module.split(".")[-1] for node in nodes(tree, ast.ImportFrom) if "figurehold" in node.module]
            for path, tree in trees()
        }
        while needs:
            free = [name for name in needs if not any(need in needs for need in needs[name])]
            self.assertTrue(free, f"a ring among {sorted(needs)}")
            for name in free:
                del needs[name]

    def test_module_level(self):
        for path, tree in trees():
            for node in tree.body:
                self.assertIsInstance(
                    node, (ast.Expr, ast.ImportFrom, ast.FunctionDef, ast.ClassDef, ast.Assign), path.name
                )
                if isinstance(node, ast.Expr):
                    self.assertIsInstance(node.value, ast.Constant, path.name)
                if isinstance(node, ast.Assign):
                    self.assertEqual(len(node.targets), 1)
                    self.assertIsInstance(node.targets[0], ast.Name)
            names = defined(tree) + imported(tree)
            self.assertEqual(len(names), len(set(names)), path.name)

    def test_statements_and_values(self):
        for path, tree in trees():
            for node in nodes(tree, ast.stmt):
                self.assertIsInstance(node, STATEMENTS, (path.name, node.lineno))
            barred = (ast.Div, ast.GeneratorExp, ast.Await, ast.Set, ast.Yield, ast.AnnAssign)
            self.assertFalse(nodes(tree, *barred), path.name)
            for node in nodes(tree, ast.Constant):
                self.assertNotIsInstance(node.value, (float, complex, bytes), path.name)
                if isinstance(node.value, str):
                    self.assertNotIn(chr(37), node.value, path.name)
            for node in nodes(tree, ast.BinOp):
                if isinstance(node.op, ast.Pow):
                    self.assertIsInstance(node.right, ast.Constant, path.name)
            for node in nodes(tree, ast.Compare):
                if any(isinstance(op, (ast.Is, ast.IsNot)) for op in node.ops):
                    self.assertIsInstance(node.comparators[0], ast.Constant, path.name)

    def test_functions(self):
        for path, tree in trees():
            for node in nodes(tree, ast.FunctionDef, ast.ClassDef):
                self.assertFalse(node.decorator_list, node.name)
            for node in nodes(tree, ast.FunctionDef):
                self.assertLessEqual(node.end_lineno - node.lineno + 1, 40, node.name)
                if node.name.startswith("__"):
                    self.assertIn(node.name, DUNDERS)

    def test_names(self):
        for path, tree in trees():
            inside = bound_inside(tree)
            classes = [node.name for node in nodes(tree, ast.ClassDef)]
            for name in inside + defined(tree):
                self.assertRegex(name, r"^(_?[A-Za-z][A-Za-z0-9_]*|_)$", path.name)
                self.assertFalse(hasattr(builtins, name), (path.name, name))
                self.assertNotIn(name, BARRED_NAMES, path.name)
            self.assertFalse(set(inside) & set(imported(tree) + classes), path.name)
            for name in {node.id for node in nodes(tree, ast.Name)}:
                if hasattr(builtins, name):
                    self.assertIn(name, BUILTINS, path.name)

    def test_words(self):
        for path, tree in trees():
            docstrings = [ast.get_docstring(node, False) for node in nodes(tree, ast.Module, ast.FunctionDef, ast.ClassDef)]
            for node in nodes(tree, ast.Constant):
                if isinstance(node.value, str) and node.value not in docstrings:
                    self.assertFalse(set(re.findall(r"\w+", node.value)) & set(BARRED_WORDS), path.name)
            for node in nodes(tree, ast.Name, ast.Attribute):
                self.assertNotIn(node.id if isinstance(node, ast.Name) else node.attr, BARRED_WORDS, path.name)

    def test_methods(self):
        own = {node.name for _, tree in trees() for c in nodes(tree, ast.ClassDef) for node in nodes(c, ast.FunctionDef)}
        for path, tree in trees():
            for node in nodes(tree, ast.Call):
                if isinstance(node.func, ast.Attribute):
                    self.assertIn(node.func.attr, METHODS + sorted(own), path.name)

    def test_set_comprehensions_are_sorted_at_once(self):
        for path, tree in trees():
            inside = [
                argument
                for node in nodes(tree, ast.Call)
                if isinstance(node.func, ast.Name) and node.func.id in ("sorted", "len") and not node.keywords
                for argument in node.args
            ]
            for node in nodes(tree, ast.SetComp):
                self.assertIn(node, inside, path.name)


if __name__ == "__main__":
    unittest.main()
