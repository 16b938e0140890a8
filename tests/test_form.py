"""The form of the package's files, as far as it can be told at a glance."""

import ast
import unittest
from pathlib import Path

PACKAGE = Path(__file__).resolve().parent.parent / "fullapart"
LIBRARY = ("heapq", "math", "itertools", "collections")


def files():
    found = PACKAGE.rglob("*")
    return sorted(path for path in found if path.is_file() and "__pycache__" not in path.parts)


class Form(unittest.TestCase):

    def test_nothing_but_python_files(self):
        self.assertIn(PACKAGE / "__init__.py", files())
        self.assertEqual([path for path in files() if path.suffix != ".py"], [])

    def test_characters_and_sizes(self):
        for path in files():
            text = path.read_bytes().decode("ascii")
            self.assertTrue(all(sign == "\n" or " " <= sign <= "~" for sign in text), path)
            rows = text.split("\n")
            self.assertLessEqual(len(rows), 399, path)
            self.assertLessEqual(max(len(row) for row in rows), 120, path)

    def test_sizes_of_functions(self):
        for path in files():
            for part in ast.walk(ast.parse(path.read_text())):
                if isinstance(part, ast.FunctionDef):
                    self.assertLessEqual(part.end_lineno - part.lineno + 1, 40, part.name)

    def test_imports(self):
        for path in files():
            for part in ast.walk(ast.parse(path.read_text())):
                self.assertNotIsInstance(part, ast.Import, path)
                if isinstance(part, ast.ImportFrom):
                    own = part.module.startswith("fullapart.")
                    self.assertTrue(own or part.module in LIBRARY, (path, part.module))
                    self.assertEqual(part.level, 0, path)

    def test_no_float_and_no_slash(self):
        for path in files():
            for part in ast.walk(ast.parse(path.read_text())):
                self.assertNotIsInstance(part, ast.Div, path)
                if isinstance(part, ast.Constant):
                    self.assertNotIsInstance(part.value, (float, complex), path)


if __name__ == "__main__":
    unittest.main()
