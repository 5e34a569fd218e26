"""What can be read off the files of the package about the rules of LANGUAGE.md."""

import ast
import builtins
import unittest
from pathlib import Path

from tests.support import ERRORS

PACKAGE = Path(__file__).resolve().parent.parent / "undermasters"

LIBRARY = {
    "heapq": ("heappush", "heappop", "heapify", "heapreplace", "heappushpop"),
    "math": ("gcd", "lcm", "isqrt", "comb", "perm", "factorial"),
    "itertools": ("product", "combinations", "permutations"),
}

BUILTINS = """
len range enumerate zip min max sum abs sorted reversed int str bool list tuple dict set isinstance ord repr any all
divmod map iter next Exception ValueError TypeError KeyError IndexError LookupError ZeroDivisionError ArithmeticError
OverflowError RuntimeError NotImplementedError AttributeError StopIteration NotImplemented super property staticmethod
classmethod
""".split()

METHODS = """
append clear copy count endswith extend find get index insert isalnum isalpha isdigit islower isspace isupper items
join keys ljust lower lstrip partition pop remove replace reverse rfind rjust rpartition rsplit rstrip setdefault split
splitlines startswith strip update upper values zfill bit_length add discard sort
""".split()

BARRED_NAMES = """
register mro elements open input law version_info with_traceback add_note attrgetter breakpoint builtins compile
copyright credits delattr dir eval exec exit gc getattr globals hasattr help id importlib license locals methodcaller
os quit setattr type vars sys hash format round filter
""".split()

BARRED_ATTRIBUTES = """
items keys values pop update append clear extend insert remove reverse setdefault sort args encode decode hex fromhex
format format_map mro
""".split()

BARRED_NODES = (
    ast.Global, ast.AsyncFunctionDef, ast.AsyncFor, ast.AsyncWith, ast.Await, ast.Div, ast.MatMult, ast.Import,
)


def package_files():
    """The pairs of each file of the package and its text."""
    return [(path, path.read_text(encoding="utf-8")) for path in sorted(PACKAGE.glob("**/*.py"))]


def nodes_of(kind):
    """The pairs of a file's name and a node of this kind, for all files."""
    return [(path.name, node) for path, text in package_files() for node in ast.walk(ast.parse(text))
            if isinstance(node, kind)]


def bound_names(node):
    """The names that the node binds, as a variable, a parameter, a function or a class."""
    if isinstance(node, ast.Name) and isinstance(node.ctx, ast.Store):
        return [node.id]
    if isinstance(node, ast.arg):
        return [node.arg]
    return [node.name] if isinstance(node, (ast.FunctionDef, ast.ClassDef)) else []


class Form(unittest.TestCase):

    def test_files(self):
        self.assertTrue((PACKAGE / "__init__.py").exists())
        for path in PACKAGE.iterdir():
            if path.name != "__pycache__":
                self.assertRegex(path.name, r"^[a-z0-9_]+\.py$")

    def test_lines_and_characters(self):
        for path, text in package_files():
            lines = text.split("\n")
            self.assertLessEqual(len(lines), 400, path.name)
            self.assertLessEqual(max(len(line) for line in lines), 120, path.name)
            self.assertEqual([c for c in text if c != "\n" and not " " <= c <= "~"], [], path.name)

    def test_size_of_functions(self):
        for name, node in nodes_of(ast.FunctionDef):
            self.assertLessEqual(node.end_lineno - node.lineno + 1, 40, (name, node.name))

    def test_imports(self):
        for name, node in nodes_of(ast.ImportFrom):
            self.assertEqual(node.level, 0, name)
            for alias in node.names:
                if node.module.startswith("undermasters."):
                    self.assertTrue((PACKAGE / f"{node.module.split('.')[1]}.py").exists(), node.module)
                    self.assertNotEqual(alias.name, "*", name)
                else:
                    self.assertIn(alias.name, LIBRARY[node.module], name)
                    self.assertIsNone(alias.asname, name)

    def test_statements_and_operators(self):
        self.assertEqual(nodes_of(BARRED_NODES), [])

    def test_constants(self):
        for name, node in nodes_of(ast.Constant):
            self.assertNotIsInstance(node.value, (float, complex), name)
            if isinstance(node.value, str):
                self.assertNotIn("%", node.value, name)

    def test_builtins(self):
        for name, node in nodes_of(ast.Name):
            if isinstance(node.ctx, ast.Load) and node.id in vars(builtins):
                self.assertIn(node.id, BUILTINS, (name, node.lineno))

    def test_methods(self):
        own = [node.name for _, node in nodes_of(ast.FunctionDef)]
        for name, node in nodes_of(ast.Call):
            if isinstance(node.func, ast.Attribute):
                self.assertIn(node.func.attr, METHODS + own + ["__init__"], (name, node.lineno))

    def test_names(self):
        for name, node in nodes_of((ast.Name, ast.arg, ast.FunctionDef, ast.ClassDef)):
            for bound in bound_names(node):
                self.assertNotIn(bound, BARRED_NAMES, (name, node.lineno))
                self.assertNotIn(bound, vars(builtins), (name, node.lineno))

    def test_names_of_imports_and_classes(self):
        for path, text in package_files():
            tree = ast.parse(text)
            taken = [alias.name for node in tree.body if isinstance(node, ast.ImportFrom) for alias in node.names]
            taken.extend([node.name for node in tree.body if isinstance(node, ast.ClassDef)])
            self.assertEqual(len(taken), len(set(taken)), path.name)
            for node in ast.walk(tree):
                if isinstance(node, (ast.Name, ast.arg)):
                    for bound in bound_names(node):
                        self.assertNotIn(bound, taken, (path.name, node.lineno))

    def test_attributes(self):
        classes = [node for _, node in nodes_of(ast.ClassDef)]
        for kind in classes:
            methods = [node.name for node in kind.body if isinstance(node, ast.FunctionDef)]
            for node in ast.walk(kind):
                if isinstance(node, ast.Attribute) and isinstance(node.ctx, ast.Store):
                    self.assertNotIn(node.attr, methods, kind.name)
                    self.assertNotIn(node.attr, BARRED_ATTRIBUTES, kind.name)

    def test_imports_are_used_and_made_where_they_say(self):
        for path, text in package_files():
            tree = ast.parse(text)
            read = [node.id for node in ast.walk(tree) if isinstance(node, ast.Name)]
            for node in [node for node in tree.body if isinstance(node, ast.ImportFrom)]:
                for alias in node.names:
                    self.assertIn(alias.name, read, path.name)
                if node.module.startswith("undermasters."):
                    source = (PACKAGE / f"{node.module.split('.')[1]}.py").read_text(encoding="ascii")
                    made = [each.name for each in ast.parse(source).body
                            if isinstance(each, (ast.FunctionDef, ast.ClassDef))]
                    for alias in node.names:
                        self.assertIn(alias.name, made, path.name)

    def test_ranges_and_views_are_iterated_at_once(self):
        kept = ("zip", "enumerate", "reversed", "map", "items", "keys", "values")
        for name, node in nodes_of((ast.Assign, ast.Return)):
            call = node.value
            if isinstance(call, ast.Call):
                called = call.func.id if isinstance(call.func, ast.Name) else call.func.attr
                self.assertNotIn(called, kept, (name, node.lineno))

    def test_what_a_package_with_operators_must_not_have(self):
        # there is a class with __eq__, __len__ and __contains__
        self.assertEqual(nodes_of((ast.GeneratorExp, ast.Yield, ast.YieldFrom, ast.Match, ast.With)), [])
        for name, node in nodes_of(ast.Attribute):
            self.assertNotIn(node.attr, ("sort", "add", "discard"), (name, node.lineno))

    def test_caught_errors_are_own_ones(self):
        for name, node in nodes_of(ast.ExceptHandler):
            self.assertIn(node.type.id, ERRORS, (name, node.lineno))
            self.assertIsNone(node.name, (name, node.lineno))

    def test_methods_and_attributes_of_classes(self):
        # a name that is a method in one class is no attribute in any
        methods, attributes = [], []
        for _, kind in nodes_of(ast.ClassDef):
            methods.extend([node.name for node in kind.body if isinstance(node, ast.FunctionDef)])
            attributes.extend([node.attr for node in ast.walk(kind)
                               if isinstance(node, ast.Attribute) and isinstance(node.ctx, ast.Store)])
        self.assertEqual(set(methods) & set(attributes), set())

    def test_is(self):
        for name, node in nodes_of(ast.Compare):
            for operator, side in zip(node.ops, node.comparators):
                if isinstance(operator, (ast.Is, ast.IsNot)):
                    self.assertIsInstance(side, ast.Constant, (name, node.lineno))


if __name__ == "__main__":
    unittest.main()
