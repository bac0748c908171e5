"""What can be seen at a glance of the rules of LANGUAGE.md, by their numbers."""

import ast
import builtins
import pathlib
import re
import unittest

PACKAGE = pathlib.Path(__file__).resolve().parent.parent / "fourstones"
FILES = sorted(PACKAGE.rglob("*.py"))
TREES = {path: ast.parse(path.read_text("utf-8")) for path in FILES}
BUILTINS = set(
    "len range enumerate zip min max sum abs sorted reversed int str bool list tuple dict set isinstance ord repr "
    "any all divmod pow map iter next super staticmethod classmethod property ValueError KeyError".split()
)
BARRED = set(
    "register mro elements open input law version_info with_traceback add_note type typing enum compile dir eval exec "
    "exit globals locals id help os quit vars sys dataclass overload contextmanager".split()
)
STATEMENTS = (
    ast.FunctionDef, ast.ClassDef, ast.ImportFrom, ast.Import, ast.Assign, ast.AugAssign, ast.If, ast.While, ast.For,
    ast.Return, ast.Break, ast.Continue, ast.Pass, ast.Raise, ast.Expr, ast.Delete, ast.Assert, ast.Try,
)


class RulesTest(unittest.TestCase):
    def nodes(self, *kinds):
        for path, tree in TREES.items():
            for node in ast.walk(tree):
                if isinstance(node, kinds):
                    yield path, node

    def test_files(self):
        self.assertIn(PACKAGE / "__init__.py", FILES)
        for path in PACKAGE.rglob("*"):
            if "__pycache__" not in path.parts:
                self.assertTrue(path.suffix == ".py" and re.fullmatch("[a-z_0-9]+", path.stem), path)

    def test_sizes_and_signs(self):
        for path in FILES:
            lines = path.read_text("utf-8").split("\n")
            self.assertLessEqual(len(lines), 399, path)
            self.assertTrue(all(len(line) <= 120 for line in lines), path)
            self.assertTrue(all(" " <= sign <= "~" for line in lines for sign in line), path)
            self.assertNotIn("_wall", "\n".join(lines), path)
        for path, node in self.nodes(ast.FunctionDef):
            self.assertLessEqual(node.end_lineno - node.lineno + 1, 40, (path, node.name))

    def test_imports(self):
        places = {f"fourstones.{path.stem}": path for path in FILES}
        above = {}
        self.assertEqual(list(self.nodes(ast.Import)), [])
        for path, node in self.nodes(ast.ImportFrom):
            self.assertEqual(node.level, 0)
            self.assertIn(node.module, places, path)
            own = {told.name for told in TREES[places[node.module]].body if hasattr(told, "name")}
            for told in TREES[places[node.module]].body:
                own |= {target.id for target in getattr(told, "targets", [])}
            self.assertTrue(all(told.name in own and told.asname is None for told in node.names), (path, node.module))
            above.setdefault(f"fourstones.{path.stem}", set()).add(node.module)
        while above:
            ready = [name for name, needs in above.items() if not any(need in above for need in needs)]
            self.assertTrue(ready, "files import from each other")
            for name in ready:
                del above[name]

    def test_imports_are_used(self):
        for path, tree in TREES.items():
            read = {node.id for node in ast.walk(tree) if isinstance(node, ast.Name)}
            for node in ast.walk(tree):
                if isinstance(node, ast.ImportFrom):
                    self.assertTrue(all(told.name in read for told in node.names), (path, node.module))

    def test_module_level(self):
        for path, tree in TREES.items():
            bound = []
            for node in tree.body:
                self.assertIsInstance(node, (ast.Expr, ast.ImportFrom, ast.FunctionDef, ast.ClassDef, ast.Assign))
                if isinstance(node, ast.Expr):
                    self.assertIsInstance(node.value, ast.Constant)
                if isinstance(node, ast.Assign):
                    self.assertEqual(len(node.targets), 1)
                    bound.append(node.targets[0].id)
                if isinstance(node, ast.ImportFrom):
                    bound += [told.name for told in node.names]
                if isinstance(node, (ast.FunctionDef, ast.ClassDef)):
                    bound.append(node.name)
            self.assertEqual(len(bound), len(set(bound)), path)

    def test_statements(self):
        for path, node in self.nodes(ast.stmt):
            self.assertIsInstance(node, STATEMENTS, path)
        for path, node in self.nodes(ast.FunctionDef):
            self.assertTrue(all(told.id in ("staticmethod", "classmethod") for told in node.decorator_list), path)
        own = {told.name for told in TREES[PACKAGE / "errors.py"].body if isinstance(told, ast.ClassDef)}
        for path, node in self.nodes(ast.ExceptHandler):
            self.assertIn(node.type.id, own, path)
        for path, node in self.nodes(ast.GeneratorExp, ast.Set):
            self.fail((path, node.lineno))
        self.assertEqual(list(self.nodes(ast.Div)), [])
        for path, node in self.nodes(ast.Constant):
            self.assertNotIsInstance(node.value, (float, complex), path)
            self.assertNotIn("%", str(node.value), path)
        for path, node in self.nodes(ast.Compare):
            for sign, other in zip(node.ops, node.comparators):
                if isinstance(sign, (ast.Is, ast.IsNot)):
                    self.assertTrue(isinstance(other, ast.Constant), path)

    def test_names(self):
        all_builtins = set(dir(builtins))
        for path, tree in TREES.items():
            tops = {node.name for node in tree.body if isinstance(node, ast.ClassDef)}
            for node in tree.body:
                if isinstance(node, ast.ImportFrom):
                    tops |= {told.name for told in node.names}
            for node in ast.walk(tree):
                if isinstance(node, ast.Name):
                    self.assertNotIn(node.id, BARRED, path)
                    if isinstance(node.ctx, ast.Store):
                        self.assertNotIn(node.id, all_builtins | tops, path)
                    elif node.id in all_builtins:
                        self.assertIn(node.id, BUILTINS, path)
                if isinstance(node, ast.arg):
                    self.assertNotIn(node.arg, all_builtins | tops | BARRED, path)
                if isinstance(node, ast.Attribute):
                    self.assertNotIn(node.attr, BARRED, path)
                    self.assertNotIn(node.attr, ("sort", "format", "args"), path)
                if isinstance(node, (ast.FunctionDef, ast.ClassDef)):
                    self.assertNotIn(node.name, all_builtins | BARRED, path)


if __name__ == "__main__":
    unittest.main()
