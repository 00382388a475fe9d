"""Checks the package against those rules of the language that can be seen without running it."""
import ast
import pathlib
import unittest

PACKAGE = pathlib.Path(__file__).resolve().parent.parent / "quillrun"
FILES = sorted(PACKAGE.glob("*.py"))
BUILTINS = set("""len range enumerate zip min max sum abs sorted reversed int str bool bytes list tuple dict set
    isinstance ord repr any all divmod Exception ValueError TypeError KeyError super""".split())
METHODS = set("""append clear copy count endswith extend find get index insert isalnum isalpha isdigit islower isspace
    isupper items join keys ljust lower lstrip partition pop remove replace reverse rfind rjust rpartition rsplit rstrip
    setdefault split splitlines startswith strip update upper values zfill bit_length""".split())
BARRED_NAMES = set("register mro elements open input law eval exec compile id type vars dir".split())
BARRED_NODES = (ast.Global, ast.AsyncFunctionDef, ast.Await, ast.Div, ast.Import)


def own_names(trees):
    """The names of everything that the package defines: functions, classes, methods."""
    return {node.name for tree in trees for node in ast.walk(tree)
            if isinstance(node, (ast.FunctionDef, ast.ClassDef))}


class LanguageTest(unittest.TestCase):
    def setUp(self):
        self.trees = {path: ast.parse(path.read_text()) for path in FILES}

    def nodes(self, *kinds):
        for path, tree in self.trees.items():
            for node in ast.walk(tree):
                if isinstance(node, kinds):
                    yield path, node

    def test_the_folder_holds_plain_files_only(self):
        for path in PACKAGE.iterdir():
            if path.name != "__pycache__":
                self.assertEqual(path.suffix, ".py")
                self.assertTrue(path.is_file() and path.name == path.name.lower())

    def test_sizes(self):
        for path in FILES:
            lines = path.read_text().split("\n")
            self.assertLessEqual(len(lines), 399, path)
            self.assertLessEqual(max(map(len, lines)), 120, path)
        for path, node in self.nodes(ast.FunctionDef):
            self.assertLessEqual(node.end_lineno - node.lineno + 1, 40, (path, node.name))

    def test_characters(self):
        for path in FILES:
            self.assertTrue(all(c == "\n" or " " <= c <= "~" for c in path.read_text()), path)
        for path, node in self.nodes(ast.Constant):
            if isinstance(node.value, str):
                self.assertNotIn("%", node.value, path)

    def test_statements_and_expressions(self):
        for path, node in self.nodes(*BARRED_NODES):
            self.fail((path, ast.dump(node)))
        for path, node in self.nodes(ast.FunctionDef, ast.ClassDef):
            self.assertEqual(node.decorator_list, [], path)

    def test_imports(self):
        for path, node in self.nodes(ast.ImportFrom):
            self.assertTrue(node.module.startswith("quillrun."), (path, node.module))
            source = self.trees[PACKAGE / (node.module.split(".")[1] + ".py")]
            defined = {name.name for name in source.body if isinstance(name, (ast.FunctionDef, ast.ClassDef))}
            assigned = {name.targets[0].id for name in source.body if isinstance(name, ast.Assign)}
            for alias in node.names:
                self.assertIsNone(alias.asname)
                self.assertIn(alias.name, defined | assigned)

    def test_only_own_names_and_the_allowed_builtins_are_called(self):
        own = own_names(self.trees.values())
        stored = {node.id for _, node in self.nodes(ast.Name) if isinstance(node.ctx, ast.Store)}
        stored |= {node.arg for _, node in self.nodes(ast.arg)}
        for path, node in self.nodes(ast.Call):
            if isinstance(node.func, ast.Name):
                self.assertIn(node.func.id, own | stored | BUILTINS, path)
            if isinstance(node.func, ast.Attribute):
                self.assertIn(node.func.attr, own | METHODS | {"__init__"}, path)

    def test_barred_names(self):
        for path, node in self.nodes(ast.Name, ast.arg, ast.Attribute, ast.FunctionDef, ast.ClassDef):
            for field in ("id", "arg", "attr", "name"):
                self.assertNotIn(getattr(node, field, None), BARRED_NAMES, path)

    def test_builtins_keep_their_meaning(self):
        for path, node in self.nodes(ast.arg, ast.FunctionDef, ast.ClassDef):
            self.assertNotIn(getattr(node, "arg", None) or node.name, BUILTINS, path)
        for path, node in self.nodes(ast.Name):
            self.assertFalse(isinstance(node.ctx, ast.Store) and node.id in BUILTINS, path)

    def test_no_local_name_is_that_of_an_import_or_a_class(self):
        for path, tree in self.trees.items():
            taken = {alias.name for node in tree.body if isinstance(node, ast.ImportFrom) for alias in node.names}
            taken |= {node.name for node in tree.body if isinstance(node, ast.ClassDef)}
            for node in ast.walk(tree):
                if isinstance(node, ast.arg):
                    self.assertNotIn(node.arg, taken, path)
                if isinstance(node, ast.Name) and isinstance(node.ctx, ast.Store):
                    self.assertNotIn(node.id, taken, path)
                if isinstance(node, ast.MatchAs):
                    self.assertNotIn(node.name, taken, path)

    def test_is_stands_beside_none_only(self):
        for path, node in self.nodes(ast.Compare):
            if any(isinstance(sign, (ast.Is, ast.IsNot)) for sign in node.ops):
                self.assertIsInstance(node.comparators[0], ast.Constant, path)
                self.assertIsNone(node.comparators[0].value, path)

    def test_no_method_or_attribute_has_the_name_of_another_method_of_builtin_values(self):
        builtin = {name for kind in (str, int, list, dict, set, bytes) for name in dir(kind) if name[0] != "_"}
        barred = builtin - METHODS - {"add", "discard"}
        for path, tree in self.trees.items():
            for node in ast.walk(tree):
                if isinstance(node, ast.ClassDef):
                    methods = {part.name for part in node.body if isinstance(part, ast.FunctionDef)}
                    stored = {part.attr for part in ast.walk(node)
                              if isinstance(part, ast.Attribute) and isinstance(part.ctx, ast.Store)}
                    self.assertEqual((methods & barred, methods & stored), (set(), set()), (path, node.name))
                    self.assertEqual(stored & builtin - {"count", "index", "copy", "add"}, set(), (path, node.name))

    def test_captured_names_are_bound_by_cases_only(self):
        for path, function in self.nodes(ast.FunctionDef):
            captured = {node.name for node in ast.walk(function) if isinstance(node, ast.MatchAs) and node.name}
            bound = {node.arg for node in ast.walk(function) if isinstance(node, ast.arg)}
            bound |= {node.id for node in ast.walk(function)
                      if isinstance(node, ast.Name) and isinstance(node.ctx, ast.Store)}
            self.assertEqual(captured & bound, set(), (path, function.name))


if __name__ == "__main__":
    unittest.main()
