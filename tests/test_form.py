"""The form of the package's files: what can be seen of the rules of the language by reading them."""

import ast
import builtins
import pathlib
import re
import unittest

PACKAGE = pathlib.Path(__file__).resolve().parent.parent / "halfbits"
PLAIN_BUILTINS = set(
    "len range enumerate zip min max sum abs sorted reversed int str bool list tuple dict set isinstance ord repr "
    "any all divmod iter next map type ValueError KeyError IndexError ZeroDivisionError StopIteration "
    "NotImplemented".split()
)
PLAIN_METHODS = set(
    "append clear copy count endswith extend find get index insert isalnum isalpha isdigit islower isspace isupper "
    "items join keys ljust lower lstrip partition pop remove replace reverse rfind rjust rpartition rsplit rstrip "
    "setdefault split splitlines startswith strip update upper values zfill bit_length popleft appendleft "
    "extendleft rotate sort".split()
)
LIBRARY = {"heapq", "math", "itertools", "collections"}
BARRED_NODES = (
    ast.AsyncFunctionDef, ast.AsyncFor, ast.AsyncWith, ast.Await, ast.Global, ast.Div, ast.MatMult, ast.Import,
)


def sources():
    """The path, the text and the tree of each file of the package."""
    for path in sorted(PACKAGE.rglob("*.py")):
        text = path.read_bytes().decode("ascii")
        yield path, text, ast.parse(text)


def own_names(kinds):
    """The names of what the package defines of some kinds."""
    return {node.name for _, _, tree in sources() for node in ast.walk(tree) if isinstance(node, kinds)}


class FormTest(unittest.TestCase):
    def test_the_package_is_one_folder_of_plain_files(self):
        for path in PACKAGE.rglob("*"):
            if path.name != "__pycache__" and path.parent.name != "__pycache__":
                self.assertRegex(path.name, r"^[a-z_][a-z0-9_]*\.py$")
        self.assertTrue((PACKAGE / "__init__.py").exists())

    def test_sizes(self):
        for path, text, tree in sources():
            lines = text.split("\n")
            self.assertLessEqual(len(lines), 399, path.name)
            self.assertLessEqual(max(len(line) for line in lines), 120, path.name)
            for node in ast.walk(tree):
                if isinstance(node, ast.FunctionDef):
                    self.assertLessEqual(node.end_lineno - node.lineno + 1, 40, (path.name, node.name))

    def test_characters(self):
        for path, text, _ in sources():
            self.assertEqual(re.findall(r"[^ -~\n]", text), [], path.name)

    def test_imports_name_the_file_that_defines(self):
        defined = {}
        for path, _, tree in sources():
            names = [node.name for node in tree.body if isinstance(node, (ast.FunctionDef, ast.ClassDef))]
            names += [node.targets[0].id for node in tree.body if isinstance(node, ast.Assign)]
            defined["halfbits." + path.stem] = names
            self.assertEqual(len(names), len(set(names)), path.name)
        for path, _, tree in sources():
            for node in ast.walk(tree):
                if isinstance(node, ast.ImportFrom) and node.module not in LIBRARY:
                    self.assertEqual(node.level, 0, path.name)
                    for alias in node.names:
                        self.assertIn(alias.name, defined[node.module], path.name)
                        self.assertIsNone(alias.asname)

    def test_imports_are_used(self):
        for path, _, tree in sources():
            used = {node.id for node in ast.walk(tree) if isinstance(node, ast.Name)}
            for node in tree.body:
                if isinstance(node, ast.ImportFrom):
                    self.assertEqual({alias.name for alias in node.names} - used, set(), path.name)

    def test_no_name_stands_for_an_import_too(self):
        for path, _, tree in sources():
            imported = {alias.name for node in tree.body if isinstance(node, ast.ImportFrom) for alias in node.names}
            defined = {node.name for node in tree.body if isinstance(node, (ast.FunctionDef, ast.ClassDef))}
            bound = {node.arg for node in ast.walk(tree) if isinstance(node, ast.arg)}
            bound |= {
                node.id for node in ast.walk(tree) if isinstance(node, ast.Name) and isinstance(node.ctx, ast.Store)
            }
            classes = {node.name for node in tree.body if isinstance(node, ast.ClassDef)}
            self.assertEqual(imported & (defined | bound), set(), path.name)
            self.assertEqual(classes & bound, set(), path.name)

    def test_statements_and_expressions(self):
        for path, _, tree in sources():
            for node in ast.walk(tree):
                self.assertNotIsInstance(node, BARRED_NODES, path.name)
                if isinstance(node, ast.Constant):
                    self.assertNotIsInstance(node.value, (float, complex), path.name)
                if isinstance(node, (ast.FunctionDef, ast.ClassDef)):
                    self.assertEqual(node.decorator_list, [], path.name)

    def test_builtins(self):
        others = set(dir(builtins)) - PLAIN_BUILTINS
        for path, _, tree in sources():
            for node in ast.walk(tree):
                if isinstance(node, ast.Name):
                    self.assertNotIn(node.id, others, path.name)
                    if isinstance(node.ctx, ast.Store):
                        self.assertNotIn(node.id, dir(builtins), path.name)
                if isinstance(node, ast.arg):
                    self.assertNotIn(node.arg, dir(builtins), path.name)

    def test_methods(self):
        allowed = PLAIN_METHODS | own_names(ast.FunctionDef)
        for path, _, tree in sources():
            for node in ast.walk(tree):
                if isinstance(node, ast.Call) and isinstance(node.func, ast.Attribute):
                    self.assertIn(node.func.attr, allowed, path.name)

    def test_strings(self):
        for path, _, tree in sources():
            for node in ast.walk(tree):
                if isinstance(node, ast.Constant) and isinstance(node.value, str):
                    self.assertNotIn("%", node.value, path.name)


if __name__ == "__main__":
    unittest.main()
