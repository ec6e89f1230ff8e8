"""Rules of the language of the package that can be seen in its files one by one."""

import ast
import pathlib
import unittest

PACKAGE = pathlib.Path(__file__).resolve().parent.parent / "wheretrue"
LIBRARY = {
    "heapq": {"heappush", "heappop", "heapify", "heapreplace", "heappushpop"},
    "math": {"gcd", "lcm", "isqrt", "comb", "perm", "factorial"},
    "itertools": {"product", "combinations", "permutations", "chain", "accumulate", "pairwise", "islice",
                  "zip_longest"},
    "collections": {"defaultdict"},
}
BUILTINS = set(
    "len range enumerate zip min max sum abs sorted reversed int str bool bytes list tuple dict set frozenset "
    "isinstance ord repr any all divmod pow getattr hasattr setattr iter next map super property "
    "Exception ValueError TypeError KeyError IndexError LookupError ZeroDivisionError ArithmeticError OverflowError "
    "RuntimeError NotImplementedError AttributeError StopIteration NotImplemented".split()
)
EVERY_BUILTIN = set(__builtins__ if isinstance(__builtins__, dict) else dir(__builtins__))
BARRED_NAMES = {"register", "mro", "elements", "open", "input", "law", "version_info", "with_traceback", "add_note"}
BARRED_STATEMENTS = (
    ast.Global, ast.AsyncFunctionDef, ast.AsyncFor, ast.AsyncWith, ast.Await, ast.Div, ast.MatMult, ast.TryStar,
)


def bound_names(tree):
    """All names that the file gives to something: functions, classes, parameters, variables, imports."""
    for node in ast.walk(tree):
        if isinstance(node, (ast.FunctionDef, ast.ClassDef)):
            yield node.name
        elif isinstance(node, ast.arg):
            yield node.arg
        elif isinstance(node, ast.Name) and not isinstance(node.ctx, ast.Load):
            yield node.id
        elif isinstance(node, ast.alias):
            yield node.asname or node.name


def imported_names(tree):
    """All names that the file imports."""
    return {alias.name for node in tree.body if isinstance(node, ast.ImportFrom) for alias in node.names}


class LanguageTest(unittest.TestCase):
    def setUp(self):
        self.files = {path: path.read_text(encoding="utf-8") for path in sorted(PACKAGE.rglob("*.py"))}
        self.trees = {path: ast.parse(text) for path, text in self.files.items()}

    def test_the_folder_contains_python_files_alone(self):
        self.assertIn(PACKAGE / "__init__.py", self.files)
        for path in PACKAGE.rglob("*"):
            if "__pycache__" not in path.parts:
                self.assertEqual(path.suffix, ".py", path)

    def test_size(self):
        for path, text in self.files.items():
            self.assertLessEqual(len(text.splitlines()), 399, path)
            for line in text.splitlines():
                self.assertLessEqual(len(line), 120, line)
            for node in ast.walk(self.trees[path]):
                if isinstance(node, ast.FunctionDef):
                    self.assertLessEqual(node.end_lineno - node.lineno + 1, 40, node.name)

    def test_characters(self):
        for path, text in self.files.items():
            self.assertTrue(all(" " <= character <= "~" or character == "\n" for character in text), path)

    def test_imports(self):
        for path, tree in self.trees.items():
            for node in ast.walk(tree):
                self.assertNotIsInstance(node, ast.Import, path)
                if isinstance(node, ast.ImportFrom):
                    self.assertEqual(node.level, 0, path)
                    if node.module not in LIBRARY:
                        self.assertEqual(node.module.split(".")[0], "wheretrue", path)
                    else:
                        self.assertLessEqual({alias.name for alias in node.names}, LIBRARY[node.module], path)

    def test_imports_are_used_and_not_given_another_meaning(self):
        for path, tree in self.trees.items():
            imported = imported_names(tree)
            used = {node.id for node in ast.walk(tree) if isinstance(node, ast.Name) and isinstance(node.ctx, ast.Load)}
            self.assertLessEqual(imported, used, path)
            classes = {node.name for node in tree.body if isinstance(node, ast.ClassDef)}
            for node in ast.walk(tree):
                if isinstance(node, ast.arg):
                    self.assertNotIn(node.arg, imported | classes, path)
                elif isinstance(node, ast.Name) and not isinstance(node.ctx, ast.Load):
                    self.assertNotIn(node.id, imported | classes, path)

    def test_no_two_files_import_from_each_other(self):
        links = {}
        for path, tree in self.trees.items():
            links["wheretrue." + path.stem] = [
                node.module for node in tree.body
                if isinstance(node, ast.ImportFrom) and node.module.startswith("wheretrue.")
            ]
        done = set()
        while len(done) < len(links):
            ready = {name for name, others in links.items() if name not in done and done.issuperset(others)}
            self.assertTrue(ready, set(links) - done)
            done |= ready

    def test_names_come_from_the_files_that_define_them(self):
        for path, tree in self.trees.items():
            for node in tree.body:
                if isinstance(node, ast.ImportFrom) and node.module.startswith("wheretrue."):
                    other = self.trees[PACKAGE / (node.module.split(".")[1] + ".py")]
                    names = [one.name for one in other.body if isinstance(one, (ast.FunctionDef, ast.ClassDef))]
                    names += [target.id for one in other.body if isinstance(one, ast.Assign) for target in one.targets]
                    for alias in node.names:
                        self.assertIn(alias.name, names, path)

    def test_decorators(self):
        for path, tree in self.trees.items():
            for node in ast.walk(tree):
                for decorator in getattr(node, "decorator_list", []):
                    self.assertEqual(ast.unparse(decorator), "property", path)

    def test_no_name_is_a_method_and_an_attribute(self):
        methods, attributes = set(), set()
        for tree in self.trees.values():
            for one in ast.walk(tree):
                if isinstance(one, ast.ClassDef):
                    methods |= {node.name for node in one.body if isinstance(node, ast.FunctionDef)}
                elif isinstance(one, ast.Attribute) and not isinstance(one.ctx, ast.Load):
                    attributes.add(one.attr)
        self.assertEqual(methods & attributes, set())

    def test_statements_and_values(self):
        for path, tree in self.trees.items():
            for node in ast.walk(tree):
                self.assertNotIsInstance(node, BARRED_STATEMENTS, path)
                if isinstance(node, ast.Constant):
                    self.assertNotIsInstance(node.value, (float, complex), path)
                    self.assertFalse(isinstance(node.value, str) and "%" in node.value, path)

    def test_names(self):
        for path, tree in self.trees.items():
            for name in bound_names(tree):
                self.assertNotIn(name, EVERY_BUILTIN | BARRED_NAMES, path)
            for node in ast.walk(tree):
                if isinstance(node, ast.Name) and node.id in EVERY_BUILTIN:
                    self.assertIn(node.id, BUILTINS, path)

    def test_module_level(self):
        for path, tree in self.trees.items():
            for node in tree.body:
                docstring = isinstance(node, ast.Expr) and isinstance(node.value, ast.Constant)
                allowed = (ast.ImportFrom, ast.FunctionDef, ast.ClassDef, ast.Assign)
                self.assertTrue(docstring or isinstance(node, allowed), path)


if __name__ == "__main__":
    unittest.main()
