"""What of ../shared/LANGUAGE.md can be told from the files of the package by a few plain looks."""

import ast
import unittest
from pathlib import Path

PACKAGE = Path(__file__).resolve().parent.parent / "latewise"
FILES = sorted(PACKAGE.rglob("*.py"))
BARRED = (
    ast.AsyncFunctionDef, ast.AsyncFor, ast.AsyncWith, ast.Await, ast.Import, ast.Div, ast.MatMult, ast.Set,
)
BUILTINS = (
    "len range enumerate zip min max sum abs sorted reversed int str bool list tuple dict set isinstance ord repr "
    "any all divmod ValueError"
).split()
METHODS = (
    "append clear copy count endswith extend find get index insert isalnum isalpha isdigit islower isspace isupper "
    "items join keys ljust lower lstrip partition pop remove replace reverse rfind rjust rpartition rsplit rstrip "
    "setdefault split splitlines startswith strip update upper values zfill bit_length"
).split()
# What may be imported from outside of the package.
LIBRARY = {"math": ["gcd", "lcm", "isqrt", "comb"], "itertools": ["product", "combinations", "permutations"]}


def names_of_builtins():
    """The names of all builtins; doctest puts one more among them, which is none."""
    names = dir(__builtins__) if not isinstance(__builtins__, dict) else list(__builtins__)
    return [name for name in names if name != "_"]


def names_at_module_level(tree):
    """The names of the functions, classes and values that a file defines."""
    names = [part.name for part in tree.body if isinstance(part, (ast.FunctionDef, ast.ClassDef))]
    return names + [part.targets[0].id for part in tree.body if isinstance(part, ast.Assign)]


class LanguageTest(unittest.TestCase):
    def nodes(self):
        for path in FILES:
            for node in ast.walk(ast.parse(path.read_text())):
                yield path.name, node

    def test_files(self):
        self.assertIn(PACKAGE / "__init__.py", FILES)
        others = [path for path in PACKAGE.rglob("*") if path.suffix != ".py" and "__pycache__" not in path.parts]
        self.assertEqual(others, [])

    def test_sizes_and_characters(self):
        for path in FILES:
            text = path.read_text()
            lines = text.splitlines()
            self.assertLess(len(lines), 400, path.name)
            self.assertLessEqual(max(len(line) for line in lines), 120, path.name)
            self.assertTrue(all(sign == "\n" or " " <= sign <= "~" for sign in text), path.name)

    def test_functions_are_short(self):
        for name, node in self.nodes():
            if isinstance(node, ast.FunctionDef):
                self.assertLessEqual(node.end_lineno - node.lineno, 39, (name, node.name))

    def test_imports_name_the_file_that_defines_the_name(self):
        for name, node in self.nodes():
            if isinstance(node, ast.ImportFrom):
                self.assertEqual(node.level, 0, name)
                if node.module in LIBRARY:
                    listed = LIBRARY[node.module]
                else:
                    self.assertTrue(node.module.startswith("latewise."), (name, node.module))
                    text = (PACKAGE / (node.module.split(".")[1] + ".py")).read_text()
                    listed = names_at_module_level(ast.parse(text))
                for alias in node.names:
                    self.assertIn(alias.name, listed, name)
                    self.assertIsNone(alias.asname, name)

    def test_no_two_files_import_from_each_other(self):
        imported = {path.stem: [] for path in FILES}
        for path in FILES:
            for node in ast.walk(ast.parse(path.read_text())):
                if isinstance(node, ast.ImportFrom) and node.module.startswith("latewise."):
                    imported[path.stem].append(node.module.split(".")[1])
        while imported:
            free = [name for name in imported if not any(other in imported for other in imported[name])]
            self.assertTrue(free, sorted(imported))
            imported = {name: imported[name] for name in imported if name not in free}

    def test_names_are_bound_once_at_module_level(self):
        for path in FILES:
            tree = ast.parse(path.read_text())
            names = names_at_module_level(tree)
            names += [alias.name for part in tree.body if isinstance(part, ast.ImportFrom) for alias in part.names]
            self.assertEqual(len(names), len(set(names)), path.name)

    def test_no_barred_statements_and_values(self):
        for name, node in self.nodes():
            self.assertNotIsInstance(node, BARRED, name)
            self.assertFalse(isinstance(node, ast.Constant) and isinstance(node.value, (float, complex)), name)
            self.assertFalse(isinstance(node, (ast.FunctionDef, ast.ClassDef)) and node.decorator_list, name)

    def test_only_listed_builtins(self):
        known = names_of_builtins()
        for name, node in self.nodes():
            if isinstance(node, ast.Name) and node.id in known:
                self.assertIn(node.id, BUILTINS, name)

    def test_no_generator_expressions(self):
        # Beside a class with __eq__, any, all, min, max, sum and sorted take lists.
        for name, node in self.nodes():
            self.assertNotIsInstance(node, ast.GeneratorExp, name)

    def test_methods_of_builtin_values_are_listed_ones(self):
        own = [node.name for name, node in self.nodes() if isinstance(node, ast.FunctionDef)]
        for name, node in self.nodes():
            if isinstance(node, ast.Call) and isinstance(node.func, ast.Attribute):
                self.assertIn(node.func.attr, own + METHODS, name)

    def test_no_name_of_a_builtin_a_class_or_an_import_is_bound_again(self):
        for path in FILES:
            tree = ast.parse(path.read_text())
            taken = [alias.name for node in ast.walk(tree) if isinstance(node, ast.ImportFrom) for alias in node.names]
            taken += [node.name for node in tree.body if isinstance(node, ast.ClassDef)]
            taken += names_of_builtins()
            for node in ast.walk(tree):
                if isinstance(node, ast.Name) and isinstance(node.ctx, ast.Store):
                    self.assertNotIn(node.id, taken, path.name)
                if isinstance(node, ast.arg):
                    self.assertNotIn(node.arg, taken, path.name)


if __name__ == "__main__":
    unittest.main()
