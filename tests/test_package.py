"""The package's files: where the interface is defined, and the rules of LANGUAGE.md that can be counted."""

import ast
import pathlib
import re
import unittest
import warnings

FOLDER = pathlib.Path(__file__).resolve().parent.parent / "rollwarden"
LIBRARY = {"heapq", "math", "itertools", "collections", "__future__"}
INTERFACE = {
    "errors": ("RollError", "BadProgram", "BadPlan", "NotAllowed"),
    "records": ("record_count", "number_of", "record_at", "all_records"),
    "forms": ("convert", "lost_up", "lost_down"),
}


def files():
    return sorted(FOLDER.rglob("*.py"))


def trees():
    return [(path.name, ast.parse(path.read_text(encoding="utf-8"))) for path in files()]


def nodes(*kinds):
    for name, tree in trees():
        for node in ast.walk(tree):
            if isinstance(node, kinds):
                yield name, node


class TestInterface(unittest.TestCase):
    def test_each_name_is_defined_in_its_own_file(self):
        for module, names in INTERFACE.items():
            tree = ast.parse((FOLDER / f"{module}.py").read_text(encoding="utf-8"))
            defined = [node.name for node in tree.body if isinstance(node, (ast.FunctionDef, ast.ClassDef))]
            for name in names:
                with self.subTest(module=module, name=name):
                    self.assertIn(name, defined)


class TestRules(unittest.TestCase):
    def test_the_folder_contains_only_plainly_named_python_files(self):
        for path in FOLDER.rglob("*"):
            if path.name != "__pycache__" and path.parent.name != "__pycache__":
                self.assertRegex(path.name, r"\A[a-z0-9_]+(\.py)?\Z")
        self.assertTrue((FOLDER / "__init__.py").is_file())

    def test_characters_and_sizes(self):
        for path in files():
            text = path.read_text(encoding="utf-8")
            with self.subTest(path=path.name):
                self.assertIsNone(re.search(r"[^ -~\n]", text))
                self.assertLessEqual(len(text.splitlines()), 399)
                self.assertLessEqual(max(map(len, text.splitlines())), 120)

    def test_functions_are_short(self):
        for name, node in nodes(ast.FunctionDef):
            with self.subTest(file=name, function=node.name):
                self.assertLessEqual(node.end_lineno - node.lineno + 1, 40)

    def test_imports(self):
        self.assertEqual([name for name, _ in nodes(ast.Import)], [])
        for name, node in nodes(ast.ImportFrom):
            with self.subTest(file=name, line=node.lineno):
                self.assertEqual(node.level, 0)
                self.assertIn(node.module.split(".")[0], LIBRARY | {"rollwarden"})

    def test_each_attribute_that_is_read_is_assigned_by_a_class(self):
        assigned = {node.attr for _, node in nodes(ast.Attribute) if isinstance(node.ctx, ast.Store)}
        methods = {node.name for _, node in nodes(ast.FunctionDef)}
        for name, tree in trees():
            calls = {id(node.func) for node in ast.walk(tree) if isinstance(node, ast.Call)}
            for node in ast.walk(tree):
                if isinstance(node, ast.Attribute) and isinstance(node.ctx, ast.Load) and id(node) not in calls:
                    with self.subTest(file=name, line=node.lineno, attribute=node.attr):
                        self.assertIn(node.attr, assigned | methods)

    def test_python_gives_no_warning(self):
        for path in files():
            with warnings.catch_warnings():
                warnings.simplefilter("error")
                compile(path.read_text(encoding="utf-8"), path.name, "exec")


if __name__ == "__main__":
    unittest.main()
