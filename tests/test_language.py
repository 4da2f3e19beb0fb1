"""The package keeps to the plain part of Python that its document allows."""

import ast
import builtins
import unittest
from pathlib import Path

PACKAGE = Path(__file__).resolve().parent.parent / "wheelnines"

MODULES = (
    "errors", "numbers", "digits", "pieces", "wheels", "cyclic", "dial", "texts", "desk",
    "residues", "lengths", "sums", "counts", "seen", "blocks", "facts",
)

BUILTINS = {
    "len", "range", "enumerate", "zip", "min", "max", "sum", "abs", "sorted", "reversed", "int", "str", "bool",
    "bytes", "list", "tuple", "dict", "set", "frozenset", "isinstance", "ord", "repr", "any", "all", "divmod",
    "iter", "next", "map", "property", "staticmethod", "classmethod", "super", "object", "print",
    "Exception", "ValueError", "TypeError", "KeyError", "IndexError", "LookupError", "ZeroDivisionError",
    "ArithmeticError", "OverflowError", "RuntimeError", "NotImplementedError", "AttributeError", "StopIteration",
    "NotImplemented",
}

LIBRARY = {
    "heapq": {"heappush", "heappop", "heapify", "heapreplace", "heappushpop"},
    "math": {"gcd", "lcm", "isqrt", "comb", "perm", "factorial"},
    "itertools": {"product", "combinations", "permutations"},
    "__future__": {"annotations"},
}

METHODS = set(
    "append clear copy count endswith extend find get index insert isalnum isalpha isdigit islower isspace isupper"
    " items join keys ljust lower lstrip partition pop remove replace reverse rfind rjust rpartition rsplit rstrip"
    " setdefault split splitlines startswith strip update upper values zfill bit_length isascii isdecimal".split()
)

SPECIAL = set(
    "__init__ __eq__ __repr__ __str__ __len__ __enter__ __exit__ __call__ __iter__ __lt__ __le__ __gt__ __ge__"
    " __ne__ __bool__ __contains__ __add__ __sub__ __mul__ __neg__".split()
)

NOWHERE = {
    "register", "mro", "elements", "open", "input", "law", "version_info", "with_traceback", "add_note", "type",
    "typing", "enum", "Enum", "Generic", "Protocol", "namedtuple", "NamedTuple", "abstractmethod", "dataclass",
    "overload", "contextmanager",
}


def files():
    return sorted(PACKAGE.rglob("*.py"))


def trees():
    return [(path, ast.parse(path.read_text("utf-8"))) for path in files()]


def nodes(kind):
    return [(path, node) for path, tree in trees() for node in ast.walk(tree) if isinstance(node, kind)]


class Files(unittest.TestCase):
    def test_there_is_a_package(self):
        self.assertTrue((PACKAGE / "__init__.py").is_file())
        for name in MODULES:
            self.assertTrue((PACKAGE / f"{name}.py").is_file())

    def test_nothing_else_in_the_folder(self):
        for path in PACKAGE.rglob("*"):
            if "__pycache__" not in path.parts and path.is_file():
                self.assertEqual(path.suffix, ".py", path)

    def test_characters_and_sizes(self):
        for path in files():
            text = path.read_bytes().decode("ascii")
            self.assertTrue(all([char == "\n" or " " <= char <= "~" for char in text]), path)
            lines = text.split("\n")
            self.assertLessEqual(len(lines) - 1, 399, path)
            self.assertLessEqual(max([len(line) for line in lines]), 120, path)

    def test_functions_are_short(self):
        for path, node in nodes((ast.FunctionDef, ast.Lambda)):
            self.assertLessEqual(node.end_lineno - node.lineno + 1, 40, f"{path}:{node.lineno}")


class Words(unittest.TestCase):
    def test_imports(self):
        for path, node in nodes((ast.Import, ast.ImportFrom)):
            where = f"{path}:{node.lineno}"
            if isinstance(node, ast.Import):
                self.assertEqual((path.name, [name.name for name in node.names]), ("__main__.py", ["sys"]), where)
                continue
            self.assertEqual(node.level, 0, where)
            for name in node.names:
                self.assertNotEqual(name.name, "*", where)
                if node.module.split(".")[0] != "wheelnines":
                    self.assertIn(name.name, LIBRARY.get(node.module, ()), where)

    def test_no_other_builtin(self):
        found = set(dir(builtins))
        for path, node in nodes(ast.Name):
            if node.id in found - {"__name__"}:
                self.assertIn(node.id, BUILTINS, f"{path}:{node.lineno}")

    def test_no_floats_and_no_division(self):
        for path, node in nodes(ast.Constant):
            self.assertNotIsInstance(node.value, (float, complex), f"{path}:{node.lineno}")
        for path, node in nodes(ast.Div):
            self.fail(path)

    def test_strings(self):
        for path, node in nodes(ast.Constant):
            if isinstance(node.value, str):
                self.assertNotIn(chr(37), node.value, f"{path}:{node.lineno}")

    def test_statements(self):
        banned = (ast.Global, ast.AsyncFunctionDef, ast.AsyncFor, ast.AsyncWith, ast.Await, ast.TryStar)
        for path, node in nodes(banned):
            self.fail(f"{path}:{node.lineno}")

    def test_powers_have_literal_exponents(self):
        for path, node in nodes(ast.BinOp):
            if isinstance(node.op, ast.Pow) and isinstance(node.left, ast.Constant) and node.left.value == 2:
                self.assertIsInstance(node.right, ast.Constant, f"{path}:{node.lineno}")


class Names(unittest.TestCase):
    def test_no_name_of_a_builtin_is_given_another_meaning(self):
        for path, name, line in self.bound():
            self.assertNotIn(name, dir(builtins), f"{path}:{line}")
            self.assertNotIn(name, NOWHERE, f"{path}:{line}")

    def bound(self):
        rows = [(path, node.arg, node.lineno) for path, node in nodes(ast.arg)]
        for path, node in nodes(ast.Name):
            if isinstance(node.ctx, ast.Store):
                rows.append((path, node.id, node.lineno))
        return rows + [(path, node.name, node.lineno) for path, node in nodes((ast.FunctionDef, ast.ClassDef))]

    def test_no_variable_has_the_name_of_an_import_or_a_class(self):
        for path, tree in trees():
            taken = {name.name for node in ast.walk(tree) if isinstance(node, ast.ImportFrom) for name in node.names}
            taken |= {node.name for node in ast.walk(tree) if isinstance(node, ast.ClassDef)}
            for node in ast.walk(tree):
                if isinstance(node, ast.arg):
                    self.assertNotIn(node.arg, taken, f"{path}:{node.lineno}")
                if isinstance(node, ast.Name) and isinstance(node.ctx, ast.Store):
                    self.assertNotIn(node.id, taken, f"{path}:{node.lineno}")

    def test_methods_that_are_called(self):
        own = {node.name for _, node in nodes(ast.FunctionDef)}
        for path, node in nodes(ast.Call):
            if isinstance(node.func, ast.Attribute):
                self.assertIn(node.func.attr, METHODS | own, f"{path}:{node.lineno}")

    def test_double_underscore_methods_and_decorators(self):
        for path, node in nodes(ast.FunctionDef):
            if node.name.startswith("__"):
                self.assertIn(node.name, SPECIAL, f"{path}:{node.lineno}")
            for row in node.decorator_list:
                self.assertIn(ast.unparse(row), ("property",), f"{path}:{node.lineno}")

    def test_sets_are_only_sorted_or_measured(self):
        places = set()
        for path, node in nodes(ast.Call):
            if isinstance(node.func, ast.Name) and node.func.id in ("sorted", "len"):
                places |= {(path, arg.lineno, arg.col_offset) for arg in node.args}
        for path, node in nodes((ast.Call, ast.Set, ast.SetComp)):
            if isinstance(node, ast.Call) and not (isinstance(node.func, ast.Name) and node.func.id == "set"):
                continue
            self.assertIn((path, node.lineno, node.col_offset), places)


if __name__ == "__main__":
    unittest.main()
