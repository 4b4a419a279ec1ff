"""The package keeps to the plain part of Python in which it is written: what a look at the syntax can tell."""

import ast
import builtins
import keyword
from pathlib import Path
import re
import unittest

PACKAGE = Path(__file__).resolve().parent.parent / "liftedladders"
BUILTINS = set("""len range enumerate zip min max sum abs sorted reversed int str bool bytes list tuple dict set
    frozenset isinstance ord repr any all divmod iter next map super property staticmethod classmethod Exception
    ValueError TypeError KeyError IndexError LookupError ZeroDivisionError ArithmeticError OverflowError RuntimeError
    NotImplementedError AttributeError StopIteration NotImplemented""".split())
# Doctest leaves a "_" there.
ALL_BUILTINS = set(dir(builtins)) - {"_"}
LIBRARY = {"math": {"gcd", "lcm", "isqrt", "comb", "perm", "factorial"},
           "itertools": {"product", "combinations", "permutations"}}
METHODS = set("""append clear copy count endswith extend find get index insert isalnum isalpha isdigit islower isspace
    isupper items join keys ljust lower lstrip partition pop remove replace reverse rfind rjust rpartition rsplit rstrip
    setdefault split splitlines startswith strip update upper values zfill bit_length add discard""".split())
DUNDERS = set("""__init__ __eq__ __repr__ __str__ __len__ __enter__ __exit__ __call__ __iter__ __le__ __lt__ __ge__
    __gt__ __add__ __contains__ __getitem__""".split())
BARRED = (ast.Global, ast.AsyncFunctionDef, ast.Await, ast.GeneratorExp, ast.Set, ast.Div, ast.Lambda, ast.YieldFrom)


def files():
    return sorted(PACKAGE.glob("*.py"))


def trees():
    return [(path, ast.parse(path.read_text("ascii"))) for path in files()]


def nodes(kind):
    return [(path, node) for path, tree in trees() for node in ast.walk(tree) if isinstance(node, kind)]


def bound(tree):
    """The names that a file binds by itself, methods and attributes left out."""
    methods = {id(part) for node in ast.walk(tree) if isinstance(node, ast.ClassDef) for part in node.body}
    for node in ast.walk(tree):
        if isinstance(node, (ast.FunctionDef, ast.ClassDef)) and id(node) not in methods:
            yield node.name
        if isinstance(node, ast.arg):
            yield node.arg
        if isinstance(node, ast.Name) and isinstance(node.ctx, ast.Store):
            yield node.id


def called(node):
    """The name of a called function, or None."""
    return node.func.id if isinstance(node, ast.Call) and isinstance(node.func, ast.Name) else None


class LanguageTest(unittest.TestCase):
    def test_files(self):
        self.assertGreater(len(files()), 8)
        for path in PACKAGE.iterdir():
            self.assertTrue(path.suffix == ".py" or path.name == "__pycache__", path)
        for path in files():
            text = path.read_text("ascii")
            self.assertIsNone(re.search("[^ -~\n]", text), path)
            self.assertLess(text.count("\n"), 400, path)
            self.assertLessEqual(max([len(line) for line in text.split("\n")]), 120, path)

    def test_functions_are_short(self):
        for path, node in nodes(ast.FunctionDef):
            self.assertLessEqual(node.end_lineno - node.lineno + 1, 40, (path, node.name))

    def test_imports(self):
        for path, tree in trees():
            for node in ast.walk(tree):
                self.assertNotIsInstance(node, ast.Import, path)
                if isinstance(node, ast.ImportFrom):
                    self.assertIn(node, tree.body, path)
                    names = {name.name for name in node.names}
                    self.assertTrue(all(name.asname is None for name in node.names), path)
                    if node.module in LIBRARY:
                        self.assertLessEqual(names, LIBRARY[node.module], path)
                    else:
                        self.assertEqual(node.module.split(".")[0], "liftedladders", path)
                        self.assertLessEqual(names, defined(node.module.split(".")[1]), path)

    def test_imports_are_used(self):
        for path, tree in trees():
            imported = {name.name for node in tree.body if isinstance(node, ast.ImportFrom) for name in node.names}
            self.assertLessEqual(imported, {node.id for node in ast.walk(tree) if isinstance(node, ast.Name)}, path)

    def test_names(self):
        for path, tree in trees():
            names = set(bound(tree))
            self.assertFalse(names & ALL_BUILTINS, path)
            self.assertFalse(names & set(keyword.softkwlist) - {"_"}, path)
            taken = {node.name for node in tree.body if isinstance(node, ast.ClassDef)}
            taken |= {name.name for node in tree.body if isinstance(node, ast.ImportFrom) for name in node.names}
            inner = [name for name in bound(tree) if name in taken]
            self.assertEqual(len(inner), len([name for name in inner if name in defined(path.stem)]), (path, inner))
            for node in ast.walk(tree):
                if isinstance(node, ast.Name) and node.id in ALL_BUILTINS:
                    self.assertIn(node.id, BUILTINS, (path, node.lineno))

    def test_barred(self):
        for path, node in nodes(BARRED):
            self.fail((path, node.lineno))
        for path, node in nodes(ast.Constant):
            self.assertNotIsInstance(node.value, (float, complex, bytes), (path, node.lineno))
            if isinstance(node.value, str):
                self.assertNotIn("%", node.value, (path, node.lineno))
        for path, node in nodes(ast.FunctionDef):
            self.assertFalse(node.name.startswith("__") and node.name not in DUNDERS, (path, node.name))

    def test_sorted_and_the_like(self):
        # A class with an order of its own lets only sets and plain numbers be sorted.
        for path, node in nodes(ast.Call):
            if called(node) == "sorted":
                self.assertEqual(called(node.args[0]), "set", (path, node.lineno))
            if called(node) in ("min", "max"):
                plain = [isinstance(part, ast.Constant)
                         or isinstance(part, ast.ListComp) and called(part.elt) in ("int", "len") for part in node.args]
                self.assertTrue(any(plain), (path, node.lineno))
            if called(node) == "set":
                self.assertEqual(len(node.args), 1, (path, node.lineno))

    def test_methods(self):
        own = {node.name for _, node in nodes(ast.FunctionDef)}
        for path, node in nodes(ast.Call):
            if isinstance(node.func, ast.Attribute):
                self.assertIn(node.func.attr, METHODS | own, (path, node.lineno))

    def test_no_name_is_a_method_and_an_attribute(self):
        methods = {part.name for _, node in nodes(ast.ClassDef) for part in node.body
                   if isinstance(part, ast.FunctionDef)}
        attributes = {node.attr for _, node in nodes(ast.Attribute) if isinstance(node.ctx, ast.Store)}
        self.assertFalse(methods & attributes)

    def test_what_can_be_indexed_is_not_iterated(self):
        for path, node in nodes(ast.ClassDef):
            names = {part.name for part in node.body if isinstance(part, ast.FunctionDef)}
            self.assertTrue("__getitem__" not in names or "__iter__" in names, (path, node.name))


def defined(module):
    """The names that a file of the package defines at module level."""
    tree = ast.parse((PACKAGE / (module + ".py")).read_text("ascii"))
    names = {node.name for node in tree.body if isinstance(node, (ast.FunctionDef, ast.ClassDef))}
    return names | {part.id for node in tree.body if isinstance(node, ast.Assign) for part in node.targets}


if __name__ == "__main__":
    unittest.main()
