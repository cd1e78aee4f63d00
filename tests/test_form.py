"""The form of the package's files, as far as a short test can see it."""

import ast
import os
import unittest

FOLDER = os.path.join(os.path.dirname(os.path.dirname(os.path.abspath(__file__))), "fadeleaf")
LIBRARY = {
    "heapq": {"heappush", "heappop", "heapify", "heapreplace", "heappushpop"},
    "math": {"gcd", "lcm", "isqrt", "comb", "perm", "factorial"},
    "itertools": {
        "product", "combinations", "permutations", "chain", "accumulate", "pairwise", "islice", "zip_longest",
    },
    "collections": {"defaultdict"},
}
BARRED = ("_wall", "_pe_", "_dcw_", "_enum_", "_cm_", "_twin_re_", "_lay_", "_law_", "_stub_", "_sre", "_WallAttr")
NOT_ALLOWED = (
    ast.Global, ast.AsyncFunctionDef, ast.AsyncFor, ast.AsyncWith, ast.Await, ast.Import, ast.Div, ast.TryStar,
)


def files():
    """The names and texts of the package's files."""
    told = []
    for name in sorted(os.listdir(FOLDER)):
        if name != "__pycache__":
            with open(os.path.join(FOLDER, name), encoding="utf-8") as file:
                told.append((name, file.read()))
    return told


class Form(unittest.TestCase):
    def test_the_folder_holds_plain_files_alone(self):
        for name, _ in files():
            self.assertRegex(name, r"\A[a-z_][a-z0-9_]*\.py\Z")

    def test_signs_and_sizes(self):
        for name, text in files():
            rows = text.split("\n")
            self.assertLessEqual(len(rows), 399, name)
            for row in rows:
                self.assertLessEqual(len(row), 120, (name, row))
                self.assertTrue(all(" " <= sign <= "~" for sign in row), (name, row))

    def test_functions_are_short(self):
        for name, text in files():
            for node in ast.walk(ast.parse(text)):
                if isinstance(node, ast.FunctionDef):
                    self.assertLessEqual(node.end_lineno - node.lineno + 1, 40, (name, node.name))

    def test_imports_are_of_the_package(self):
        for name, text in files():
            for node in ast.walk(ast.parse(text)):
                if isinstance(node, ast.ImportFrom):
                    names = {alias.name for alias in node.names}
                    if node.module.startswith("fadeleaf."):
                        self.assertNotIn("*", names, name)
                    else:
                        self.assertLessEqual(names, LIBRARY.get(node.module, set()), name)
                    self.assertEqual(node.level, 0, name)

    def test_names(self):
        for name, text in files():
            for node in ast.walk(ast.parse(text)):
                for told in (getattr(node, key, None) for key in ("id", "name", "attr", "arg")):
                    if isinstance(told, str):
                        self.assertFalse(told.startswith(BARRED), (name, told))

    def test_statements_and_values(self):
        for name, text in files():
            for node in ast.walk(ast.parse(text)):
                self.assertNotIsInstance(node, NOT_ALLOWED, name)
                if isinstance(node, ast.Constant):
                    self.assertNotIsInstance(node.value, (float, complex), name)
                if isinstance(node, ast.Constant) and isinstance(node.value, str):
                    self.assertNotIn("%", node.value, name)
                if isinstance(node, (ast.ClassDef, ast.FunctionDef)):
                    plain = [one for one in node.decorator_list if not isinstance(one, (ast.Name, ast.Attribute))]
                    self.assertEqual(plain, [], name)


if __name__ == "__main__":
    unittest.main()
