"""Some rules of LANGUAGE.md, as far as a short test can see them."""

import ast
import builtins
import pathlib
import unittest

PACKAGE = pathlib.Path(__file__).resolve().parent.parent / "accountmaps"
FILES = sorted(path for path in PACKAGE.rglob("*") if "__pycache__" not in path.parts and path.is_file())
TREES = [(path.name, ast.parse(path.read_text())) for path in FILES if path.suffix == ".py"]
BUILTINS = """len range enumerate zip min max sum abs sorted reversed int str bool list tuple dict set isinstance ord
repr any all divmod property ValueError TypeError KeyError IndexError LookupError NotImplemented""".split()
CHANGING = "append clear extend insert pop remove reverse setdefault update".split()
DOUBLE = "__init__ __eq__ __repr__ __str__ __len__ __iter__ __getitem__".split()
BARRED = (ast.GeneratorExp, ast.Global, ast.AsyncFunctionDef, ast.Await, ast.Div, ast.Set, ast.SetComp)


def nodes(kind):
    """All tuples (file, node) of a kind."""
    return [(name, node) for name, tree in TREES for node in ast.walk(tree) if isinstance(node, kind)]


def calls_of(called):
    """All tuples (file, call) of the calls of a builtin or a function by its bare name."""
    return [(name, node) for name, node in nodes(ast.Call)
            if isinstance(node.func, ast.Name) and node.func.id == called]


class TestLanguage(unittest.TestCase):
    def test_files(self):
        self.assertTrue(FILES)
        for path in FILES:
            self.assertEqual((path.suffix, path.parent, path.name), (".py", PACKAGE, path.name.lower()))
            text = path.read_text()
            self.assertTrue(all(sign == "\n" or " " <= sign <= "~" for sign in text), path.name)
            lines = text.split("\n")
            self.assertLessEqual(len(lines), 400, path.name)
            self.assertLessEqual(max(len(line) for line in lines), 120, path.name)

    def test_functions_are_short(self):
        for name, node in nodes(ast.FunctionDef):
            self.assertLessEqual(node.end_lineno - node.lineno + 1, 40, (name, node.name))

    def test_decorators(self):
        found = [one.id for _, node in nodes(ast.FunctionDef) for one in node.decorator_list]
        self.assertEqual(set(found), {"property"})

    def test_imports(self):
        self.assertEqual(nodes(ast.Import), [])
        for name, node in nodes(ast.ImportFrom):
            self.assertEqual((node.level, [alias.asname for alias in node.names]), (0, [None] * len(node.names)))
            if node.module == "math":
                self.assertLessEqual({alias.name for alias in node.names}, {"gcd", "lcm"})
            else:
                path = PACKAGE / (node.module.removeprefix("accountmaps.") + ".py")
                rows = ast.parse(path.read_text()).body
                own = {one.name for one in rows if isinstance(one, (ast.FunctionDef, ast.ClassDef))}
                own |= {one.targets[0].id for one in rows if isinstance(one, ast.Assign)}
                self.assertLessEqual({alias.name for alias in node.names}, own, name)

    def test_imports_are_used(self):
        for name, tree in TREES:
            imported = {one.name for node in tree.body if isinstance(node, ast.ImportFrom) for one in node.names}
            self.assertLessEqual(imported, {node.id for node in ast.walk(tree) if isinstance(node, ast.Name)}, name)

    def test_builtins(self):
        for name, node in nodes(ast.Name):
            # Examples that were tried leave a name `_` among the builtins.
            if hasattr(builtins, node.id) and node.id != "_":
                self.assertIn(node.id, BUILTINS, name)
                self.assertIsInstance(node.ctx, ast.Load, name)

    def test_what_is_barred(self):
        self.assertEqual(nodes(BARRED), [])
        for name, node in nodes(ast.Constant):
            self.assertNotIsInstance(node.value, float, name)
            self.assertFalse(isinstance(node.value, str) and "\x25" in node.value, name)
        for name, node in nodes(ast.Attribute):
            self.assertNotEqual(node.attr, "sort", name)

    def test_reversed(self):
        # House has [ ], so `reversed` stands over what plainly is a list or a range.
        for name, node in calls_of("reversed"):
            told = node.args[0]
            plain = isinstance(told, ast.Call) and isinstance(told.func, ast.Name)
            plain = plain and told.func.id in ("list", "tuple", "sorted", "range")
            self.assertTrue(plain or isinstance(told, (ast.List, ast.Tuple, ast.Constant)), (name, node.lineno))

    def test_stars_and_keywords_of_builtins(self):
        for name, node in nodes(ast.Call):
            called = node.func.id if isinstance(node.func, ast.Name) else None
            for one in node.args:
                if isinstance(one, ast.Starred):
                    self.assertIn(called, ["zip", "min", "max"], (name, node.lineno))
                    self.assertIsInstance(one.value, ast.Name, (name, node.lineno))
            allowed = {"sorted": ["key", "reverse"], "min": ["key", "default"], "max": ["key", "default"],
                       "sum": ["start"], "enumerate": ["start"], "zip": ["strict"]}
            if called in BUILTINS + ["gcd", "lcm"]:
                self.assertLessEqual({one.arg for one in node.keywords}, set(allowed.get(called, [])), name)

    def test_names_of_imports_and_classes_are_not_taken(self):
        for name, tree in TREES:
            held = [node for node in tree.body if isinstance(node, ast.ClassDef)]
            taken = {node.name for node in held}
            taken |= {one.name for node in tree.body if isinstance(node, ast.ImportFrom) for one in node.names}
            own = [node.name for node in tree.body if isinstance(node, (ast.ClassDef, ast.FunctionDef))]
            self.assertEqual(len(own), len(set(own)), name)
            found = {node.arg for node in ast.walk(tree) if isinstance(node, ast.arg)}
            found |= {node.id for node in ast.walk(tree) if isinstance(node, ast.Name) and isinstance(node.ctx, ast.Store)}
            self.assertEqual((taken | set(dir(builtins))) & found - {"_"}, set(), name)
            self.assertEqual(taken & {one for one in own if one not in {node.name for node in held}}, set(), name)

    def test_no_imports_in_a_circle(self):
        imports = {name: {node.module.split(".")[1] + ".py" for node in tree.body
                          if isinstance(node, ast.ImportFrom) and node.module.startswith("accountmaps.")}
                   for name, tree in TREES}
        while imports:
            free = [name for name in imports if not imports[name] & set(imports)]
            self.assertTrue(free, imports)
            imports = {name: imports[name] for name in imports if name not in free}

    def test_exponents_are_written(self):
        for name, node in nodes(ast.BinOp):
            if isinstance(node.op, ast.Pow):
                self.assertIsInstance(node.right, ast.Constant, (name, node.lineno))

    def test_lists_in_loops_stay(self):
        """No loop over a name changes what has this name."""
        for name, node in nodes(ast.For):
            gone_over = {one.id for one in ast.walk(node.iter) if isinstance(one, ast.Name)}
            called = node.iter.func if isinstance(node.iter, ast.Call) else None
            if isinstance(called, ast.Attribute) or called and called.id in ("list", "range", "sorted"):
                gone_over = set()
            for one in [inner for row in node.body for inner in ast.walk(row)]:
                if isinstance(one, ast.Call) and isinstance(one.func, ast.Attribute):
                    if one.func.attr in CHANGING and isinstance(one.func.value, ast.Name):
                        self.assertNotIn(one.func.value.id, gone_over, (name, one.lineno))
                if isinstance(one, ast.Subscript) and isinstance(one.ctx, ast.Store):
                    if isinstance(one.value, ast.Name):
                        self.assertNotIn(one.value.id, gone_over, (name, one.lineno))

    def test_double_underscores(self):
        for name, node in nodes(ast.FunctionDef):
            if node.name.startswith("__"):
                self.assertIn(node.name, DOUBLE, name)
