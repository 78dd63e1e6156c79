"""The form of the code: what of ../shared/LANGUAGE.md is easily told by a program."""

import ast
import builtins
import pathlib
import unittest

FOLDER = pathlib.Path(__file__).resolve().parent.parent / "runsback"
FILES = sorted(FOLDER.rglob("*.py"))
NODES = set("""
Module Import ImportFrom alias FunctionDef arguments arg Return ClassDef Assign AugAssign For While If Raise Assert Delete
Pass Break Continue Expr Nonlocal Name Load Store Del Attribute Subscript Slice Constant List Tuple Dict Set Starred
ListComp SetComp DictComp comprehension BinOp UnaryOp BoolOp Compare Call IfExp Lambda JoinedStr FormattedValue
Add Sub Mult FloorDiv Mod Pow LShift RShift BitAnd BitOr BitXor USub Invert Not And Or
Eq NotEq Lt LtE Gt GtE Is IsNot In NotIn Try ExceptHandler keyword
""".split())
LET = set("""
len range enumerate zip min max sum abs sorted reversed int str bool bytes list tuple dict set isinstance ord repr any
all divmod map iter next type ValueError TypeError KeyError IndexError property
""".split())
LIBRARY = {"heapq": {"heappop", "heappush"}, "math": {"lcm"}}
METHODS = {"__init__", "__eq__", "__repr__", "__str__", "__len__"}
TAKES_A_LIST = {"any", "all", "min", "max", "sum", "sorted"}


def trees():
    return [(path, ast.parse(path.read_text(encoding="ascii"))) for path in FILES]


def functions(tree):
    return [node for node in ast.walk(tree) if isinstance(node, ast.FunctionDef)]


def bound_names(tree):
    """The names that a module binds, as often as it binds them."""
    names = []
    for node in tree.body:
        if isinstance(node, (ast.FunctionDef, ast.ClassDef)):
            names.append(node.name)
        elif isinstance(node, ast.ImportFrom):
            names.extend([alias.asname or alias.name for alias in node.names])
        elif isinstance(node, ast.Assign):
            names.extend([target.id for target in node.targets])
    return names


class FormTest(unittest.TestCase):
    def test_folder(self):
        found = [path for path in FOLDER.rglob("*") if path.is_file() and "__pycache__" not in path.parts]
        self.assertEqual(sorted(found), FILES)
        self.assertIn(FOLDER / "__init__.py", FILES)

    def test_sizes(self):
        for path, tree in trees():
            lines = path.read_text(encoding="ascii").split("\n")
            self.assertLessEqual(len(lines), 400, path)
            self.assertLessEqual(max([len(line) for line in lines]), 120, path)
            self.assertNotIn("\t", path.read_text(encoding="ascii"))
            for node in functions(tree):
                self.assertLessEqual(node.end_lineno - node.lineno + 1, 40, (path, node.name))

    def test_nodes(self):
        for path, tree in trees():
            for node in ast.walk(tree):
                self.assertIn(type(node).__name__, NODES, (path, getattr(node, "lineno", 0)))
                if isinstance(node, ast.Constant):
                    self.assertNotIsInstance(node.value, (float, complex), path)

    def test_module_level(self):
        for path, tree in trees():
            for node in tree.body:
                docstring = isinstance(node, ast.Expr) and isinstance(node.value, ast.Constant)
                self.assertTrue(docstring or isinstance(node, (ast.ImportFrom, ast.FunctionDef, ast.ClassDef, ast.Assign)))
            self.assertEqual(len(bound_names(tree)), len(set(bound_names(tree))), path)

    def test_decorators_and_methods(self):
        for path, tree in trees():
            for node in functions(tree):
                self.assertLessEqual({ast.unparse(decorator) for decorator in node.decorator_list}, {"property"})
                if node.name.startswith("__"):
                    self.assertIn(node.name, METHODS, path)

    def test_properties_are_no_attributes(self):
        properties = {node.name for _, tree in trees() for node in functions(tree) if node.decorator_list}
        self.assertEqual(properties, {"parts", "steps", "moves"})
        for path, tree in trees():
            for node in ast.walk(tree):
                if isinstance(node, ast.Attribute) and isinstance(node.ctx, ast.Store):
                    self.assertNotIn(node.attr, properties, (path, node.lineno))

    def test_methods_are_no_attributes(self):
        for path, tree in trees():
            for each in [node for node in tree.body if isinstance(node, ast.ClassDef)]:
                methods = {node.name for node in each.body if isinstance(node, ast.FunctionDef)}
                stored = {node.attr for node in ast.walk(each) if isinstance(node, ast.Attribute) and isinstance(node.ctx, ast.Store)}
                self.assertEqual(methods & stored, set(), (path, each.name))

    def test_attributes_that_are_read_are_stored(self):
        stored, read, made = set(), set(), set()
        for _, tree in trees():
            for node in ast.walk(tree):
                if isinstance(node, ast.Attribute):
                    (stored if isinstance(node.ctx, ast.Store) else read).add(node.attr)
                if isinstance(node, ast.FunctionDef):
                    made.add(node.name)
        built_in = {name for kind in (str, list, dict, int, tuple) for name in dir(kind)}
        self.assertEqual(read - stored - made - built_in, set())

    def test_names(self):
        for path, tree in trees():
            barred = {name for node in tree.body if isinstance(node, (ast.ImportFrom, ast.ClassDef))
                      for name in ([node.name] if isinstance(node, ast.ClassDef) else [x.name for x in node.names])}
            barred |= set(dir(builtins))
            for node in ast.walk(tree):
                if isinstance(node, ast.Name) and isinstance(node.ctx, ast.Store):
                    self.assertNotIn(node.id, barred, (path, node.lineno))
                if isinstance(node, ast.arg):
                    self.assertNotIn(node.arg, barred, (path, node.lineno))
                if isinstance(node, ast.Name) and node.id in dir(builtins):
                    self.assertIn(node.id, LET, (path, node.lineno))

    def test_calls(self):
        for path, tree in trees():
            for node in ast.walk(tree):
                if not isinstance(node, ast.Call):
                    continue
                for argument in node.args:
                    if isinstance(argument, ast.Starred):
                        self.assertIsInstance(argument.value, (ast.Name, ast.Attribute), (path, node.lineno))
                name = node.func.id if isinstance(node.func, ast.Name) else None
                if name in TAKES_A_LIST:
                    self.assertNotIsInstance(node.args[0], ast.GeneratorExp, (path, node.lineno))
                if isinstance(node.func, ast.Attribute):
                    self.assertNotEqual(node.func.attr, "sort", (path, node.lineno))

    def test_imports(self):
        led = {}
        for path, tree in trees():
            own = "runsback." + path.stem
            nodes = [node for node in tree.body if isinstance(node, ast.ImportFrom)]
            for node in nodes:
                if node.module in LIBRARY:
                    self.assertLessEqual({alias.name for alias in node.names}, LIBRARY[node.module], path)
                else:
                    self.assertTrue(node.module.startswith("runsback."), (path, node.module))
            led[own] = [node.module for node in nodes if node.module not in LIBRARY]
        for name in led:
            seen = set()
            waiting = list(led[name])
            while waiting:
                other = waiting.pop()
                if other not in seen:
                    seen.add(other)
                    waiting.extend(led[other])
            self.assertNotIn(name, seen)
