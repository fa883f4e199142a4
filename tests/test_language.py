"""The rules of the language that can be read off the files of the package."""

import ast
import builtins
import os
import unittest
import warnings

TOP = os.path.dirname(os.path.dirname(os.path.abspath(__file__)))
BARRED = {"register", "mro", "elements", "open", "input", "law", "version_info", "with_traceback", "add_note"}


def files():
    found = []
    for folder, _, names in os.walk(os.path.join(TOP, "pacebond")):
        if os.path.basename(folder) != "__pycache__":
            found.extend([os.path.join(folder, name) for name in names])
    return sorted(found)


def module_of(path):
    words = os.path.relpath(path, TOP)[:-3].split(os.sep)
    return ".".join(words[:-1] if words[-1] == "__init__" else words)


def defined_in(tree):
    """The names that a module binds itself."""
    names = []
    for node in tree.body:
        if isinstance(node, (ast.FunctionDef, ast.ClassDef)):
            names.append(node.name)
        if isinstance(node, ast.Assign):
            names.append(node.targets[0].id)
    return names


class Language(unittest.TestCase):
    @classmethod
    def setUpClass(cls):
        cls.texts = {path: open(path, encoding="ascii", newline="").read() for path in files()}
        with warnings.catch_warnings():
            warnings.simplefilter("error")
            cls.trees = {path: ast.parse(text) for path, text in cls.texts.items()}

    def nodes(self, *kinds):
        return [(path, node) for path, tree in self.trees.items() for node in ast.walk(tree) if isinstance(node, kinds)]

    def test_files(self):
        for path in files():
            self.assertTrue(path.endswith(".py"), path)
            self.assertTrue(os.path.exists(os.path.join(os.path.dirname(path), "__init__.py")), path)
        self.assertLessEqual(len(files()), 100)

    def test_sizes_and_signs(self):
        for path, text in self.texts.items():
            lines = text.split("\n")
            self.assertLessEqual(len(lines), 400, path)
            self.assertEqual(lines[-1], "", path)
            for line in lines:
                self.assertLessEqual(len(line), 120, path)
                self.assertTrue(all(" " <= sign <= "~" for sign in line), (path, line))
                self.assertEqual(line, line.rstrip(), path)
        for path, node in self.nodes(ast.FunctionDef):
            self.assertLessEqual(node.end_lineno - node.lineno + 1, 40, (path, node.name))

    def test_imports(self):
        homes = {module_of(path): defined_in(tree) for path, tree in self.trees.items()}
        uses = {module_of(path): [] for path in self.trees}
        for path, node in self.nodes(ast.Import, ast.ImportFrom):
            self.assertIsInstance(node, ast.ImportFrom, path)
            self.assertEqual(node.level, 0)
            self.assertIn(node, self.trees[path].body)
            for name in node.names:
                self.assertIsNone(name.asname)
                self.assertIn(name.name, homes[node.module], path)
            uses[module_of(path)].append(node.module)
        while uses:
            free = [module for module, needs in uses.items() if not any(need in uses for need in needs)]
            self.assertTrue(free, f"these import from each other: {sorted(uses)}")
            uses = {module: needs for module, needs in uses.items() if module not in free}

    def test_each_import_is_used(self):
        for path, tree in self.trees.items():
            used = {node.id for node in ast.walk(tree) if isinstance(node, ast.Name)}
            for node in tree.body:
                if isinstance(node, ast.ImportFrom):
                    self.assertLessEqual({name.name for name in node.names}, used, path)

    def test_names(self):
        taken = {name for name in dir(builtins)}
        for path, tree in self.trees.items():
            self.assertEqual(len(set(defined_in(tree))), len(defined_in(tree)), path)
            imported = {name.name for node in tree.body if isinstance(node, ast.ImportFrom) for name in node.names}
            classes = {node.name for node in tree.body if isinstance(node, ast.ClassDef)}
            for node in ast.walk(tree):
                names = []
                if isinstance(node, ast.Name) and isinstance(node.ctx, ast.Store):
                    names = [node.id]
                if isinstance(node, ast.arg):
                    names = [node.arg]
                for name in names:
                    self.assertNotIn(name, imported | classes | taken, path)
                if isinstance(node, (ast.FunctionDef, ast.ClassDef)):
                    names = [node.name]
                    self.assertNotIn(node.name, taken | imported, path)
                if isinstance(node, ast.Attribute):
                    names = [node.attr]
                for name in names:
                    self.assertNotIn(name, BARRED, path)
                    self.assertFalse(name.startswith("__") and not name.endswith("__"), path)

    def test_barred_statements(self):
        barred = (ast.AsyncFunctionDef, ast.Await, ast.AsyncFor, ast.AsyncWith, ast.Global, ast.SetComp, ast.Div)
        self.assertEqual([(path, node.lineno) for path, node in self.nodes(*barred)], [])
        for path, node in self.nodes(ast.FunctionDef, ast.ClassDef):
            self.assertEqual(node.decorator_list, [], path)
        # Bench and Yard have an __eq__, and beside one no generator goes into any, all, sum and their kind.
        self.assertEqual([(path, node.lineno) for path, node in self.nodes(ast.GeneratorExp)], [])
        for path, node in self.nodes(ast.Compare):
            for sign, other in zip(node.ops, node.comparators):
                if isinstance(sign, (ast.Is, ast.IsNot)):
                    left = node.left
                    asked = isinstance(left, ast.Call) and isinstance(left.func, ast.Name) and left.func.id == "type"
                    self.assertTrue(asked or (isinstance(other, ast.Constant) and other.value is None), path)

    def test_texts(self):
        for path, node in self.nodes(ast.Constant):
            if isinstance(node.value, str):
                self.assertNotIn("%", node.value, path)
                self.assertNotIn("__", node.value, path)
            self.assertNotIsInstance(node.value, (float, complex, bytes), path)

    def test_each_function_says_what_it_tells(self):
        for path, node in self.nodes(ast.FunctionDef, ast.ClassDef):
            if node.name != "__init__":
                self.assertTrue(ast.get_docstring(node), (path, node.name))
        for path, tree in self.trees.items():
            self.assertTrue(ast.get_docstring(tree), path)


if __name__ == "__main__":
    unittest.main()
