"""The package keeps to its subset of the language, as far as a few simple looks at its files can tell."""

import ast
import builtins
import unittest
from pathlib import Path

PACKAGE = Path(__file__).resolve().parent.parent / "allsomeno"
BUILTINS = set(
    "len range enumerate zip min max sum abs sorted reversed int str bool bytes list tuple dict set frozenset "
    "isinstance ord repr any all divmod pow map iter next ValueError KeyError".split())
# A module under test in the same run may have left a `_` among the builtins.
ALL_BUILTINS = set(dir(builtins)) - {"_"}
BARRED_NODES = (
    ast.Global, ast.AsyncFunctionDef, ast.AsyncFor, ast.AsyncWith, ast.Await, ast.Import, ast.Div, ast.Set,
)
BARRED_WORDS = (
    "register", "mro", "elements", "open", "input", "eval", "exec", "globals", "locals", "vars", "typing", "enum",
)


def files():
    return sorted(PACKAGE.rglob("*.py"))


def tree_of(path):
    return ast.parse(path.read_text())


def bound_names(function):
    """The parameters and the local variables of a function."""
    found = {argument.arg for argument in ast.walk(function) if isinstance(argument, ast.arg)}
    for node in ast.walk(function):
        if isinstance(node, ast.Name) and isinstance(node.ctx, ast.Store):
            found.add(node.id)
    return found


def module_names(tree):
    """The names that are bound at module level, once for each time they are bound."""
    found = []
    for node in tree.body:
        if isinstance(node, (ast.FunctionDef, ast.ClassDef)):
            found.append(node.name)
        elif isinstance(node, ast.ImportFrom):
            found.extend(alias.asname or alias.name for alias in node.names)
        elif isinstance(node, ast.Assign):
            found.extend(target.id for target in node.targets)
    return found


class Files(unittest.TestCase):
    def test_only_python_files_with_plain_names(self):
        for path in PACKAGE.rglob("*"):
            if "__pycache__" not in path.parts and path.is_file():
                self.assertRegex(path.name, r"^[a-z_]+\.py$")
        self.assertTrue((PACKAGE / "__init__.py").exists())

    def test_characters_and_sizes(self):
        for path in files():
            text = path.read_text()
            self.assertLessEqual(len(text.splitlines()), 399, path)
            for line in text.split("\n"):
                self.assertLessEqual(len(line), 120, (path, line))
                self.assertTrue(all(" " <= sign <= "~" for sign in line), (path, line))

    def test_functions_are_small(self):
        for path in files():
            for node in ast.walk(tree_of(path)):
                if isinstance(node, ast.FunctionDef):
                    self.assertLessEqual(node.end_lineno - node.lineno + 1, 40, (path, node.name))
                    self.assertEqual(node.decorator_list, [], (path, node.name))


class Code(unittest.TestCase):
    def test_module_level(self):
        allowed = (ast.FunctionDef, ast.ClassDef, ast.ImportFrom, ast.Assign, ast.Expr)
        for path in files():
            tree = tree_of(path)
            self.assertIsNotNone(ast.get_docstring(tree), path)
            for node in tree.body:
                self.assertIsInstance(node, allowed, path)
                if isinstance(node, ast.Assign):
                    self.assertEqual(len(node.targets), 1)
                    ast.literal_eval(node.value)
            names = module_names(tree)
            self.assertEqual(len(names), len(set(names)), path)

    def test_imports_name_the_file_that_defines_the_name(self):
        for path in files():
            for node in ast.walk(tree_of(path)):
                if isinstance(node, ast.ImportFrom):
                    self.assertTrue(node.module.startswith("allsomeno."), (path, node.module))
                    source = PACKAGE / (node.module.split(".", 1)[1] + ".py")
                    defined = [
                        name for name in module_names(tree_of(source))
                        if name not in [alias.name for one in tree_of(source).body
                                        if isinstance(one, ast.ImportFrom) for alias in one.names]
                    ]
                    for alias in node.names:
                        self.assertIn(alias.name, defined, path)

    def test_every_import_is_used(self):
        for path in files():
            tree = tree_of(path)
            used = {node.id for node in ast.walk(tree) if isinstance(node, ast.Name)}
            for node in tree.body:
                if isinstance(node, ast.ImportFrom):
                    for alias in node.names:
                        self.assertIn(alias.name, used, path)

    def test_only_the_builtins_of_the_subset(self):
        for path in files():
            tree = tree_of(path)
            for node in ast.walk(tree):
                if isinstance(node, ast.Name) and node.id in ALL_BUILTINS:
                    self.assertIn(node.id, BUILTINS, path)
                    self.assertIsInstance(node.ctx, ast.Load, (path, node.id))
                if isinstance(node, BARRED_NODES):
                    self.fail((path, ast.dump(node)))
                if isinstance(node, ast.Constant):
                    self.assertNotIsInstance(node.value, float, path)
                if isinstance(node, ast.Name):
                    self.assertNotIn(node.id, BARRED_WORDS, path)

    def test_no_local_name_hides_an_import_or_a_builtin(self):
        for path in files():
            tree = tree_of(path)
            barred = set(module_names(tree)) | ALL_BUILTINS
            for node in ast.walk(tree):
                if isinstance(node, ast.FunctionDef):
                    self.assertEqual(bound_names(node) & barred, set(), (path, node.name))


if __name__ == "__main__":
    unittest.main()
