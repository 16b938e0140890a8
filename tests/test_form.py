"""The form of the package's files, as far as it can be told at a glance."""

import ast
import builtins
import unittest
from pathlib import Path

PACKAGE = Path(__file__).resolve().parent.parent / "fullapart"
LIBRARY = ("heapq", "math", "itertools", "collections")
AT_ONCE = ("combinations", "permutations", "product")
BUILTINS = set(
    "len range enumerate zip min max sum abs sorted reversed int str bool list tuple dict set "
    "isinstance ord repr any all divmod pow ValueError super".split()
)
METHODS = set(
    "append clear copy count endswith extend find get index insert isalnum isalpha isdigit "
    "islower isspace isupper items join keys ljust lower lstrip partition pop remove replace "
    "reverse rfind rjust rpartition rsplit rstrip setdefault split splitlines startswith strip "
    "update upper values zfill bit_length add discard __init__".split()
)
STATEMENTS = (
    ast.FunctionDef, ast.ClassDef, ast.Return, ast.Delete, ast.Assign, ast.AugAssign, ast.For,
    ast.While, ast.If, ast.Raise, ast.Try, ast.ImportFrom, ast.Expr, ast.Pass, ast.Break,
    ast.Continue,
)


def files():
    found = PACKAGE.rglob("*")
    return sorted(path for path in found if path.is_file() and "__pycache__" not in path.parts)


def parts():
    """Each part of each file's tree, with the part that it stands in."""
    for path in files():
        for above in ast.walk(ast.parse(path.read_text())):
            for part in ast.iter_child_nodes(above):
                yield path.name, above, part


def bound_names():
    """Each name that a file binds, but those of imports and methods."""
    for name, above, part in parts():
        if isinstance(part, ast.FunctionDef) and not isinstance(above, ast.ClassDef):
            yield name, part.name
        elif isinstance(part, ast.ClassDef):
            yield name, part.name
        elif isinstance(part, ast.arg):
            yield name, part.arg
        elif isinstance(part, ast.Name) and isinstance(part.ctx, ast.Store):
            yield name, part.id


class Form(unittest.TestCase):

    def test_nothing_but_python_files(self):
        self.assertIn(PACKAGE / "__init__.py", files())
        self.assertEqual([path for path in files() if path.suffix != ".py"], [])

    def test_characters_and_sizes(self):
        for path in files():
            text = path.read_bytes().decode("ascii")
            self.assertTrue(all(sign == "\n" or " " <= sign <= "~" for sign in text), path)
            rows = text.split("\n")
            self.assertLessEqual(len(rows), 399, path)
            self.assertLessEqual(max(len(row) for row in rows), 120, path)

    def test_sizes_of_functions(self):
        for path in files():
            for part in ast.walk(ast.parse(path.read_text())):
                if isinstance(part, ast.FunctionDef):
                    self.assertLessEqual(part.end_lineno - part.lineno + 1, 40, part.name)

    def test_imports(self):
        for path in files():
            for part in ast.walk(ast.parse(path.read_text())):
                self.assertNotIsInstance(part, ast.Import, path)
                if isinstance(part, ast.ImportFrom):
                    own = part.module.startswith("fullapart.")
                    self.assertTrue(own or part.module in LIBRARY, (path, part.module))
                    self.assertEqual(part.level, 0, path)

    def test_no_float_and_no_slash(self):
        for path in files():
            for part in ast.walk(ast.parse(path.read_text())):
                self.assertNotIsInstance(part, ast.Div, path)
                if isinstance(part, ast.Constant):
                    self.assertNotIsInstance(part.value, (float, complex), path)

    def test_builtins_that_are_used_and_none_is_given_another_meaning(self):
        for name, _, part in parts():
            if isinstance(part, ast.Name) and hasattr(builtins, part.id):
                self.assertIn(part.id, BUILTINS, name)
        for name, bound in bound_names():
            self.assertFalse(hasattr(builtins, bound), (name, bound))

    def test_methods_that_are_called(self):
        own = {part.name for _, above, part in parts()
               if isinstance(above, ast.ClassDef) and isinstance(part, ast.FunctionDef)}
        for name, _, part in parts():
            if isinstance(part, ast.Call) and isinstance(part.func, ast.Attribute):
                self.assertIn(part.func.attr, METHODS | own, (name, part.lineno))

    def test_what_is_iterated_at_once(self):
        for name, above, part in parts():
            if isinstance(part, ast.Call) and getattr(part.func, "id", None) in AT_ONCE:
                loop = isinstance(above, (ast.For, ast.comprehension)) and above.iter is part
                taken = isinstance(above, ast.Call) and above.func.id in ("list", "tuple", "sorted")
                self.assertTrue(loop or taken, (name, part.lineno))

    def test_statements(self):
        for name, _, part in parts():
            if isinstance(part, ast.stmt):
                self.assertIsInstance(part, STATEMENTS, (name, part.lineno))
            if isinstance(part, (ast.FunctionDef, ast.ClassDef)):
                self.assertEqual(part.decorator_list, [], (name, part.name))
            if isinstance(part, (ast.GeneratorExp, ast.Yield, ast.Global, ast.NamedExpr)):
                self.fail((name, part.lineno))

    def test_is_stands_beside_none_and_truths_only(self):
        for name, _, part in parts():
            if isinstance(part, ast.Compare):
                for sign, other in zip(part.ops, part.comparators):
                    if isinstance(sign, (ast.Is, ast.IsNot)):
                        self.assertIsInstance(other, ast.Constant, (name, part.lineno))
                        self.assertIn(other.value, (None, True, False))

    def test_no_percent_sign_in_a_string(self):
        for name, _, part in parts():
            if isinstance(part, ast.Constant) and isinstance(part.value, str):
                self.assertNotIn("%", part.value, (name, part.lineno))

    def test_sets_are_not_kept_in_objects_or_iterated(self):
        for name, above, part in parts():
            made = isinstance(part, ast.Call) and getattr(part.func, "id", None) == "set"
            if made or isinstance(part, (ast.Set, ast.SetComp)):
                kept = isinstance(above, ast.Assign) and isinstance(above.targets[0], ast.Name)
                asked = isinstance(above, ast.Call) and above.func.id in ("len", "sorted")
                self.assertTrue(kept or asked or isinstance(above, ast.Compare), (name, part.lineno))

    def test_files_do_not_import_in_a_ring(self):
        above = {}
        for name, _, part in parts():
            if isinstance(part, ast.ImportFrom) and part.module.startswith("fullapart."):
                above.setdefault(name, set()).add(part.module.split(".")[1] + ".py")
        rest = {path.name for path in files()}
        while rest:
            free = {name for name in rest if not above.get(name, set()) & rest}
            self.assertTrue(free, rest)
            rest -= free


if __name__ == "__main__":
    unittest.main()
