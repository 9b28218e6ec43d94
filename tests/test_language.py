"""What can be checked simply of the rules of LANGUAGE.md, for every file of the package.

What the package does not use is barred here altogether, also where the rules allow some of it.
"""

import ast
import builtins
import pathlib
import unittest

PACKAGE = pathlib.Path(__file__).resolve().parent.parent / "boxpile"
LIBRARY = {"heapq", "math", "itertools", "collections"}
BUILTINS = set(
    "len range enumerate zip min max sum abs sorted reversed int str bool bytes list tuple dict set "
    "isinstance ord repr any all divmod pow iter next map super "
    "Exception ValueError TypeError KeyError IndexError LookupError ZeroDivisionError ArithmeticError "
    "OverflowError RuntimeError NotImplementedError".split()
)
METHODS = set(
    "append clear copy count endswith extend find get index insert isalnum isalpha isdigit islower "
    "isspace isupper items join keys ljust lower lstrip partition pop remove replace reverse rfind "
    "rjust rpartition rsplit rstrip setdefault split splitlines startswith strip update upper values "
    "zfill bit_length add discard popleft appendleft sort".split()
)
BARRED = (
    ast.Global, ast.AsyncFunctionDef, ast.Await, ast.Div, ast.Import,
    ast.SetComp, ast.Starred, ast.Lambda, ast.Yield, ast.NamedExpr, ast.AnnAssign,
)


def bound(tree):
    """Every name that a file binds: assigned, imported, defined, or a parameter."""
    names = {node.id for node in ast.walk(tree) if isinstance(node, ast.Name) and isinstance(node.ctx, ast.Store)}
    names |= {alias.asname or alias.name for node in ast.walk(tree)
              if isinstance(node, ast.ImportFrom) for alias in node.names}
    names |= {node.name for node in ast.walk(tree) if isinstance(node, ast.MatchAs) and node.name}
    names |= {node.name for node in ast.walk(tree) if isinstance(node, (ast.FunctionDef, ast.ClassDef))}
    return names | {node.arg for node in ast.walk(tree) if isinstance(node, ast.arg)}


class LanguageTest(unittest.TestCase):
    def setUp(self):
        self.texts = {path.name: path.read_text("utf-8") for path in PACKAGE.glob("*.py")}
        self.trees = {name: ast.parse(text) for name, text in self.texts.items()}

    def test_the_folder_holds_files_with_plain_names_alone(self):
        left = [path.name for path in PACKAGE.iterdir() if path.name not in self.texts]
        self.assertLessEqual(set(left), {"__pycache__"})
        for name in self.texts:
            self.assertRegex(name, r"\A[a-z0-9_]+\.py\Z")
        self.assertIn("__init__.py", self.texts)

    def test_characters_and_sizes(self):
        for name, text in self.texts.items():
            self.assertTrue(all(sign == "\n" or " " <= sign <= "~" for sign in text), name)
            self.assertNotIn("%", text, name)
            lines = text.split("\n")
            self.assertLessEqual(len(lines), 399, name)
            self.assertLessEqual(max(len(line) for line in lines), 120, name)
            for node in ast.walk(self.trees[name]):
                if isinstance(node, ast.FunctionDef):
                    self.assertLessEqual(node.end_lineno - node.lineno + 1, 40, node.name)

    def test_statements_and_decorators(self):
        for name, tree in self.trees.items():
            for node in ast.walk(tree):
                self.assertNotIsInstance(node, BARRED, f"{name}: {getattr(node, 'lineno', 0)}")
                self.assertFalse(getattr(node, "decorator_list", []), name)
                if isinstance(node, ast.Constant):
                    self.assertNotIsInstance(node.value, float, name)

    def test_imports_name_the_file_that_defines(self):
        for name, tree in self.trees.items():
            for node in ast.walk(tree):
                if isinstance(node, ast.ImportFrom) and node.module not in LIBRARY:
                    package, _, module = node.module.partition(".")
                    self.assertEqual((package, node.level), ("boxpile", 0), name)
                    defined = bound(self.trees[module + ".py"])
                    self.assertLessEqual({alias.name for alias in node.names}, defined, name)

    def test_names_are_bound_or_allowed_builtins(self):
        for name, tree in self.trees.items():
            here = bound(tree)
            self.assertFalse(here & set(dir(builtins)), name)
            read = {node.id for node in ast.walk(tree) if isinstance(node, ast.Name)}
            self.assertLessEqual(read - here, BUILTINS, name)

    def test_methods_and_attributes_are_own_or_allowed(self):
        own = set()
        for tree in self.trees.values():
            own |= {node.name for node in ast.walk(tree) if isinstance(node, ast.FunctionDef)}
            own |= {node.attr for node in ast.walk(tree)
                    if isinstance(node, ast.Attribute) and isinstance(node.ctx, ast.Store)}
        self.assertFalse(own & METHODS)
        for name, tree in self.trees.items():
            used = {node.attr for node in ast.walk(tree) if isinstance(node, ast.Attribute)}
            self.assertLessEqual(used, own | METHODS, name)


if __name__ == "__main__":
    unittest.main()
