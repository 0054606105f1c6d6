"""Some rules of LANGUAGE.md, as far as a short test can see them."""

import ast
import builtins
import pathlib
import unittest

PACKAGE = pathlib.Path(__file__).resolve().parent.parent / "accountmaps"
FILES = sorted(path for path in PACKAGE.rglob("*") if "__pycache__" not in path.parts and path.is_file())
TREES = [(path.name, ast.parse(path.read_text())) for path in FILES if path.suffix == ".py"]
BUILTINS = """len range enumerate zip min max sum abs sorted reversed int str bool list tuple dict set isinstance ord
repr any all divmod property ValueError TypeError KeyError IndexError LookupError NotImplemented""".split()
DOUBLE = "__init__ __eq__ __repr__ __str__ __len__ __iter__ __getitem__".split()
BARRED = (ast.GeneratorExp, ast.Global, ast.AsyncFunctionDef, ast.Await, ast.Div, ast.Set, ast.SetComp)


def nodes(kind):
    """All tuples (file, node) of a kind."""
    return [(name, node) for name, tree in TREES for node in ast.walk(tree) if isinstance(node, kind)]


class TestLanguage(unittest.TestCase):
    def test_files(self):
        self.assertTrue(FILES)
        for path in FILES:
            self.assertEqual((path.suffix, path.parent, path.name), (".py", PACKAGE, path.name.lower()))
            text = path.read_text()
            self.assertTrue(all(sign == "\n" or " " <= sign <= "~" for sign in text), path.name)
            lines = text.split("\n")
            self.assertLessEqual(len(lines), 400, path.name)
            self.assertLessEqual(max(len(line) for line in lines), 120, path.name)

    def test_functions_are_short(self):
        for name, node in nodes(ast.FunctionDef):
            self.assertLessEqual(node.end_lineno - node.lineno + 1, 40, (name, node.name))

    def test_decorators(self):
        found = [one.id for _, node in nodes(ast.FunctionDef) for one in node.decorator_list]
        self.assertEqual(set(found), {"property"})

    def test_imports(self):
        self.assertEqual(nodes(ast.Import), [])
        for name, node in nodes(ast.ImportFrom):
            self.assertEqual((node.level, [alias.asname for alias in node.names]), (0, [None] * len(node.names)))
            if node.module == "math":
                self.assertLessEqual({alias.name for alias in node.names}, {"gcd", "lcm"})
            else:
                path = PACKAGE / (node.module.removeprefix("accountmaps.") + ".py")
                own = {one.name for one in ast.parse(path.read_text()).body
                       if isinstance(one, (ast.FunctionDef, ast.ClassDef))}
                self.assertLessEqual({alias.name for alias in node.names}, own, name)

    def test_builtins(self):
        for name, node in nodes(ast.Name):
            # Examples that were tried leave a name `_` among the builtins.
            if hasattr(builtins, node.id) and node.id != "_":
                self.assertIn(node.id, BUILTINS, name)
                self.assertIsInstance(node.ctx, ast.Load, name)

    def test_what_is_barred(self):
        self.assertEqual(nodes(BARRED), [])
        for name, node in nodes(ast.Constant):
            self.assertNotIsInstance(node.value, float, name)
            self.assertFalse(isinstance(node.value, str) and "\x25" in node.value, name)
        for name, node in nodes(ast.Attribute):
            self.assertNotEqual(node.attr, "sort", name)

    def test_double_underscores(self):
        for name, node in nodes(ast.FunctionDef):
            if node.name.startswith("__"):
                self.assertIn(node.name, DOUBLE, name)
