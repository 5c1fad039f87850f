"""The files of the package keep to the small part of Python that the project uses."""

import ast
import builtins
import pathlib
import re
import unittest

FOLDER = pathlib.Path(__file__).resolve().parent.parent / "mixedbags"
FILES = sorted(FOLDER.glob("*.py"))
CALLED = set(
    "len range enumerate zip min max sum abs sorted reversed int str bool list tuple dict isinstance ord repr any all "
    "divmod ValueError".split()
)
METHODS = set(
    "append clear copy count endswith extend find get index insert items join keys pop remove replace reverse rfind "
    "setdefault split startswith strip update values".split()
)
NODES = (
    ast.Module, ast.ImportFrom, ast.FunctionDef, ast.ClassDef, ast.arguments, ast.arg, ast.Expr, ast.Constant,
    ast.Assign, ast.AugAssign, ast.Return, ast.If, ast.For, ast.While, ast.Break, ast.Continue, ast.Pass, ast.Raise,
    ast.Try, ast.ExceptHandler, ast.Delete, ast.Name, ast.Attribute, ast.Subscript, ast.Slice, ast.Starred, ast.Call,
    ast.keyword, ast.Tuple, ast.List, ast.Dict, ast.ListComp, ast.DictComp, ast.comprehension, ast.IfExp, ast.BinOp,
    ast.BoolOp, ast.UnaryOp, ast.Compare, ast.JoinedStr, ast.FormattedValue, ast.alias, ast.expr_context,
    ast.operator, ast.boolop, ast.unaryop, ast.cmpop,
)
BARRED = (
    "type", "typing", "enum", "Enum", "Flag", "Generic", "Protocol", "ABC", "namedtuple", "dataclass", "register",
    "mro", "elements", "open", "input", "law", "eval", "exec", "globals", "locals", "vars", "id", "super",
)
SPECIAL = ("__init__", "__eq__", "__ne__", "__len__", "__str__", "__repr__")


class LanguageTest(unittest.TestCase):
    def trees(self):
        return [(path, ast.parse(path.read_text(encoding="ascii"))) for path in FILES]

    def functions(self):
        return [(path, node) for path, tree in self.trees() for node in ast.walk(tree)
                if isinstance(node, ast.FunctionDef)]

    def test_files(self):
        self.assertGreater(len(FILES), 1)
        others = [path.name for path in FOLDER.iterdir() if path.name != "__pycache__" and path not in FILES]
        self.assertEqual(others, [])
        for path in FILES:
            text = path.read_text(encoding="ascii")
            self.assertRegex(path.name, "^[a-z_]+[.]py$")
            self.assertIsNone(re.search(r"[^\n -~]", text), path.name)
            self.assertLessEqual(len(text.splitlines()), 399, path.name)
            self.assertLessEqual(max(map(len, text.splitlines())), 120, path.name)
            self.assertNotIn("_wall", text)

    def test_kinds_of_nodes(self):
        for path, tree in self.trees():
            for node in ast.walk(tree):
                self.assertIsInstance(node, NODES, f"{path.name}:{getattr(node, 'lineno', 0)}")

    def test_functions(self):
        for path, node in self.functions():
            place = f"{path.name}:{node.lineno}"
            self.assertLessEqual(node.end_lineno - node.lineno + 1, 40, place)
            self.assertEqual(node.decorator_list, [], place)
            if node.name.startswith("__"):
                self.assertIn(node.name, SPECIAL, place)

    def test_module_level(self):
        for path, tree in self.trees():
            for node in tree.body:
                is_docstring = isinstance(node, ast.Expr) and isinstance(node.value, ast.Constant)
                is_other = isinstance(node, (ast.ImportFrom, ast.FunctionDef, ast.ClassDef, ast.Assign))
                self.assertTrue(is_docstring or is_other, f"{path.name}:{node.lineno}")

    def test_imports_name_the_defining_file_and_run_in_no_circle(self):
        defined = {}
        wanted = {}
        for path, tree in self.trees():
            module = f"mixedbags.{path.stem}"
            nodes = [node for node in tree.body if isinstance(node, (ast.FunctionDef, ast.ClassDef))]
            defined[module] = {node.name for node in nodes}
            for node in tree.body:
                if isinstance(node, ast.Assign):
                    defined[module] |= {target.id for target in node.targets}
            imports = [node for node in ast.walk(tree) if isinstance(node, ast.ImportFrom)]
            self.assertTrue(all(node in tree.body and node.level == 0 for node in imports))
            wanted[module] = [(node.module, alias.name) for node in imports for alias in node.names]
        done = set()
        while len(done) < len(wanted):
            ready = {name for name in wanted if name not in done and all(other in done for other, _ in wanted[name])}
            self.assertTrue(ready, "imports run in a circle")
            done |= ready
        for names in wanted.values():
            for module, name in names:
                self.assertIn(name, defined[module])

    def test_calls_and_methods(self):
        methods = METHODS | {node.name for _, tree in self.trees() for kind in ast.walk(tree)
                             if isinstance(kind, ast.ClassDef) for node in kind.body if isinstance(node, ast.FunctionDef)}
        for path, tree in self.trees():
            own = {node.name for node in ast.walk(tree) if isinstance(node, (ast.FunctionDef, ast.ClassDef))}
            imported = {alias.name for node in tree.body if isinstance(node, ast.ImportFrom) for alias in node.names}
            for node in ast.walk(tree):
                place = f"{path.name}:{getattr(node, 'lineno', 0)}"
                if isinstance(node, ast.Call) and isinstance(node.func, ast.Name):
                    self.assertIn(node.func.id, CALLED | own | imported, place)
                if isinstance(node, ast.Call) and isinstance(node.func, ast.Attribute):
                    self.assertIn(node.func.attr, methods, place)
                if isinstance(node, ast.Compare) and isinstance(node.ops[0], (ast.Is, ast.IsNot)):
                    self.assertIsInstance(node.comparators[0], ast.Constant, place)
                if isinstance(node, ast.BinOp) and isinstance(node.op, ast.Pow):
                    self.assertIsInstance(node.right, ast.Constant, place)
                self.assertFalse(isinstance(node, ast.Constant) and isinstance(node.value, (float, bytes)), place)

    def test_finally(self):
        for path, tree in self.trees():
            for node in ast.walk(tree):
                if isinstance(node, ast.Try):
                    for step in node.finalbody:
                        self.assertIsInstance(step, ast.AugAssign, f"{path.name}:{step.lineno}")
                        self.assertIsInstance(step.value, ast.Constant, f"{path.name}:{step.lineno}")

    def test_stars_of_calls(self):
        for path, tree in self.trees():
            for node in ast.walk(tree):
                if isinstance(node, ast.Call):
                    for part in node.args:
                        if isinstance(part, ast.Starred):
                            self.assertIsInstance(part.value, (ast.Name, ast.Attribute), f"{path.name}:{part.lineno}")

    def test_names(self):
        barred = set(BARRED) | set(dir(builtins))
        for path, tree in self.trees():
            imported = {alias.name for node in tree.body if isinstance(node, ast.ImportFrom) for alias in node.names}
            for node in ast.walk(tree):
                bound = None
                if isinstance(node, ast.Name) and not isinstance(node.ctx, ast.Load):
                    bound = node.id
                elif isinstance(node, ast.arg):
                    bound = node.arg
                elif isinstance(node, (ast.FunctionDef, ast.ClassDef)):
                    bound = node.name
                if bound is not None:
                    self.assertNotIn(bound, barred | imported, f"{path.name}:{node.lineno}")
                if isinstance(node, ast.Constant) and isinstance(node.value, str):
                    self.assertNotIn("%", node.value, f"{path.name}:{node.lineno}")


if __name__ == "__main__":
    unittest.main()
