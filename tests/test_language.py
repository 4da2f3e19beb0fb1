"""The package keeps to the plain part of Python that its document allows."""

import ast
import builtins
import unittest
from pathlib import Path

PACKAGE = Path(__file__).resolve().parent.parent / "wheelnines"

BUILTINS = {
    "len", "range", "enumerate", "zip", "min", "max", "sum", "abs", "sorted", "reversed", "int", "str", "bool",
    "bytes", "list", "tuple", "dict", "set", "frozenset", "isinstance", "ord", "repr", "any", "all", "divmod",
    "iter", "next", "map", "property", "staticmethod", "classmethod", "super", "object", "print",
    "Exception", "ValueError", "TypeError", "KeyError", "IndexError", "LookupError", "ZeroDivisionError",
    "ArithmeticError", "OverflowError", "RuntimeError", "NotImplementedError", "AttributeError", "StopIteration",
    "NotImplemented",
}

LIBRARY = {
    "heapq": {"heappush", "heappop", "heapify", "heapreplace", "heappushpop"},
    "math": {"gcd", "lcm", "isqrt", "comb", "perm", "factorial"},
    "itertools": {"product", "combinations", "permutations"},
    "__future__": {"annotations"},
}


def files():
    return sorted(PACKAGE.rglob("*.py"))


def trees():
    return [(path, ast.parse(path.read_text("utf-8"))) for path in files()]


def nodes(kind):
    return [(path, node) for path, tree in trees() for node in ast.walk(tree) if isinstance(node, kind)]


class Files(unittest.TestCase):
    def test_there_is_a_package(self):
        self.assertTrue((PACKAGE / "__init__.py").is_file())
        for name in ("errors", "numbers", "digits", "pieces"):
            self.assertTrue((PACKAGE / f"{name}.py").is_file())

    def test_nothing_else_in_the_folder(self):
        for path in PACKAGE.rglob("*"):
            if "__pycache__" not in path.parts and path.is_file():
                self.assertEqual(path.suffix, ".py", path)

    def test_characters_and_sizes(self):
        for path in files():
            text = path.read_bytes().decode("ascii")
            self.assertTrue(all([char == "\n" or " " <= char <= "~" for char in text]), path)
            lines = text.split("\n")
            self.assertLessEqual(len(lines) - 1, 399, path)
            self.assertLessEqual(max([len(line) for line in lines]), 120, path)

    def test_functions_are_short(self):
        for path, node in nodes((ast.FunctionDef, ast.Lambda)):
            self.assertLessEqual(node.end_lineno - node.lineno + 1, 40, f"{path}:{node.lineno}")


class Words(unittest.TestCase):
    def test_imports(self):
        for path, node in nodes((ast.Import, ast.ImportFrom)):
            where = f"{path}:{node.lineno}"
            if isinstance(node, ast.Import):
                self.assertEqual((path.name, [name.name for name in node.names]), ("__main__.py", ["sys"]), where)
                continue
            self.assertEqual(node.level, 0, where)
            for name in node.names:
                self.assertNotEqual(name.name, "*", where)
                if node.module.split(".")[0] != "wheelnines":
                    self.assertIn(name.name, LIBRARY.get(node.module, ()), where)

    def test_no_other_builtin(self):
        found = set(dir(builtins))
        for path, node in nodes(ast.Name):
            if node.id in found - {"__name__"}:
                self.assertIn(node.id, BUILTINS, f"{path}:{node.lineno}")

    def test_no_floats_and_no_division(self):
        for path, node in nodes(ast.Constant):
            self.assertNotIsInstance(node.value, (float, complex), f"{path}:{node.lineno}")
        for path, node in nodes(ast.Div):
            self.fail(path)

    def test_strings(self):
        for path, node in nodes(ast.Constant):
            if isinstance(node.value, str):
                self.assertNotIn(chr(37), node.value, f"{path}:{node.lineno}")

    def test_statements(self):
        banned = (ast.Global, ast.AsyncFunctionDef, ast.AsyncFor, ast.AsyncWith, ast.Await, ast.TryStar)
        for path, node in nodes(banned):
            self.fail(f"{path}:{node.lineno}")

    def test_powers_have_literal_exponents(self):
        for path, node in nodes(ast.BinOp):
            if isinstance(node.op, ast.Pow) and isinstance(node.left, ast.Constant) and node.left.value == 2:
                self.assertIsInstance(node.right, ast.Constant, f"{path}:{node.lineno}")


if __name__ == "__main__":
    unittest.main()
