"""The form of the package: its files, their sizes, characters, imports and names."""

import ast
import builtins
import os
import re
import unittest

ROOT = os.path.dirname(os.path.dirname(os.path.abspath(__file__)))
PACKAGE = os.path.join(ROOT, "mailforwards")
LIBRARY = ("heapq", "math", "itertools", "collections", "__future__")
BUILTINS = (
    "len range enumerate zip min max sum abs sorted reversed int str bool bytes list tuple dict"
    " set frozenset isinstance ord repr any all divmod pow getattr hasattr setattr iter next map"
    " super property staticmethod classmethod Exception ValueError TypeError KeyError IndexError"
    " LookupError ZeroDivisionError ArithmeticError OverflowError RuntimeError"
    " NotImplementedError AttributeError NotImplemented object float").split()
METHODS = (
    "__init__ __eq__ __repr__ __str__ __len__ __enter__ __exit__ __call__ __iter__ __lt__ __le__"
    " __gt__ __ge__ __ne__ __add__ __sub__ __mul__ __rshift__ __lshift__ __contains__"
    " __getitem__ __setitem__ __bool__ __neg__").split()


def sources():
    """The text and the syntax tree of each file of the package, by name."""
    found = {}
    for name in sorted(os.listdir(PACKAGE)):
        if name != "__pycache__":
            with open(os.path.join(PACKAGE, name), encoding="utf-8", newline="") as file:
                found[name] = file.read()
    return {name: (text, ast.parse(text)) for name, text in found.items()}


class Form(unittest.TestCase):

    def each(self, kind):
        """All parts of one kind, with a name for messages."""
        for name, (_, tree) in sources().items():
            for part in ast.walk(tree):
                if isinstance(part, kind):
                    yield f"{name}:{getattr(part, 'lineno', 0)}", part

    def test_one_folder_of_plain_files(self):
        names = list(sources())
        self.assertIn("__init__.py", names)
        for name in names:
            self.assertRegex(name, r"\A[a-z0-9_]+\.py\Z")

    def test_sizes_and_characters(self):
        for name, (text, _) in sources().items():
            self.assertIsNone(re.search("[^ -~\n]", text), name)
            self.assertLessEqual(len(text.split("\n")), 399, name)
            self.assertLessEqual(max(len(line) for line in text.split("\n")), 120, name)
        for place, part in self.each(ast.FunctionDef):
            self.assertLessEqual(part.end_lineno - part.lineno + 1, 40, place)

    def test_imports_come_from_the_file_that_defines_a_name(self):
        files = sources()
        for place, part in self.each((ast.Import, ast.ImportFrom)):
            self.assertIsInstance(part, ast.ImportFrom, place)
            self.assertEqual(part.level, 0, place)
            if part.module in LIBRARY:
                continue
            self.assertTrue(part.module.startswith("mailforwards."), place)
            tree = files[part.module.split(".", 1)[1] + ".py"][1]
            defined = [row.name for row in tree.body if hasattr(row, "name")]
            defined += [row.targets[0].id for row in tree.body if isinstance(row, ast.Assign)]
            for word in part.names:
                self.assertIn(word.name, defined, place)
                self.assertIsNone(word.asname, place)

    def test_rows_at_module_level(self):
        kinds = (ast.ImportFrom, ast.FunctionDef, ast.ClassDef, ast.Assign)
        for name, (_, tree) in sources().items():
            for at, row in enumerate(tree.body):
                is_text = at == 0 and isinstance(row, ast.Expr)
                self.assertTrue(is_text or isinstance(row, kinds), f"{name}:{row.lineno}")

    def test_statements_and_values(self):
        barred = (ast.Global, ast.AsyncFunctionDef, ast.Await, ast.AsyncFor, ast.AsyncWith,
                  ast.Div, ast.MatMult, ast.Set, ast.AnnAssign)
        for place, part in self.each(barred):
            self.fail(f"{place}: {part}")
        for place, part in self.each(ast.Constant):
            self.assertNotIsInstance(part.value, (float, complex), place)

    def test_rests_are_those_of_plain_numbers(self):
        # The package makes bytes, so each % tells on the spot that it stands behind a number.
        for place, part in self.each((ast.BinOp, ast.AugAssign)):
            if isinstance(part.op, ast.Mod):
                self.assertIsInstance(part, ast.BinOp, place)
                self.assertIsInstance(part.left, ast.Call, place)
                self.assertIn(getattr(part.left.func, "id", None), ("int", "len"), place)

    def test_strings(self):
        for name, (_, tree) in sources().items():
            for part in ast.walk(tree):
                if isinstance(part, ast.Constant) and isinstance(part.value, str):
                    self.assertNotIn("%", part.value, name)
                    self.assertNotIn("__", part.value, name)

    def test_lists_instead_of_generator_expressions(self):
        # Books have a sign for equality, so no builtin takes a generator expression.
        for place, part in self.each(ast.GeneratorExp):
            self.fail(f"{place}: {part}")

    def test_builtins(self):
        for place, part in self.each(ast.Name):
            if hasattr(builtins, part.id):
                self.assertIn(part.id, BUILTINS, place)
                self.assertIsInstance(part.ctx, ast.Load, place)
        for place, part in self.each((ast.arg, ast.FunctionDef, ast.ClassDef)):
            name = part.arg if isinstance(part, ast.arg) else part.name
            if not name.startswith("__"):
                self.assertFalse(hasattr(builtins, name), place)

    def test_names(self):
        for place, part in self.each((ast.FunctionDef, ast.ClassDef)):
            if part.name.startswith("__"):
                self.assertIn(part.name, METHODS, place)
        for place, part in self.each(ast.Name):
            self.assertFalse(part.id.startswith("__"), place)
            self.assertFalse(part.id == "_" and isinstance(part.ctx, ast.Load), place)


if __name__ == "__main__":
    unittest.main()
