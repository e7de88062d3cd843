"""The package's files: where the interface is defined, and the rules of LANGUAGE.md that can be counted."""

import ast
import builtins
import pathlib
import re
import unittest
import warnings

FOLDER = pathlib.Path(__file__).resolve().parent.parent / "rollwarden"
LIBRARY = {"heapq", "math", "itertools", "collections", "__future__"}
INTERFACE = {
    "errors": ("RollError", "BadProgram", "BadPlan", "NotAllowed"),
    "records": ("record_count(sizes)", "number_of(sizes, record)", "record_at(sizes, number)", "all_records(sizes)"),
    "forms": (
        "convert(program, service, first, last, number)",
        "lost_up(program, service, version)",
        "lost_down(program, service, version)",
    ),
    "lines": (
        "value_of(expr, fields, values, arg, got)",
        "holds(test, fields, values, arg, got)",
        "run(program, service, version, question, arg, values, line, got, number)",
        "whole(program, release, records, question, arg)",
    ),
    "program": ("Program",),
    "plans": ("Plan",),
    "machine": ("start(program)", "acts(program, plan, state)", "after(program, plan, state, act)"),
    "ideal": (
        "first_ideal(program)",
        "hidden(program, plan, state, ideal)",
        "beside(program, plan, state, ideals)",
        "signed(ideals, sign)",
    ),
    "judge": (
        "first_pair(program, plan)",
        "next_pair(program, plan, pair, act)",
        "judge(program, plan, limit)",
        "certificate(program, plan, limit)",
        "check(program, plan, rows)",
    ),
    "least": ("least(program, offers, wants, limit)",),
    "unused": ("used_versions(program, plan, state, act)", "unused_from(program, plan, service, version, limit)"),
}
METHODS = {
    ("program", "Program"): (
        "__init__(self, *, questions, services, releases, switches=0, clients=1, asks=1, losses=0, doubles=0, crashes=0)",
    ),
    ("plans", "Plan"): (
        "__init__(self, program, steps, *, undo=False)",
        "version_at(self, service, instance, place)",
        "value_at(self, switch, place)",
        "form_at(self, service, place)",
        "fixed(self, place)",
        "is_open(self, turn, place)",
        "turn_of(self, index)",
        "release_of(self, level)",
    ),
}
# What LANGUAGE.md names in L8, L25 and L17.
BUILTINS = set(
    "len range enumerate zip min max sum abs sorted reversed int str bool bytes list tuple dict set frozenset "
    "isinstance ord repr any all divmod pow map Exception ValueError TypeError KeyError IndexError LookupError "
    "ZeroDivisionError".split())
BUILTIN_METHODS = {"add"} | set(
    "append clear copy count endswith extend find get index insert isalnum isalpha isdigit islower isspace isupper "
    "items join keys ljust lower lstrip partition pop remove replace reverse rfind rjust rpartition rsplit rstrip "
    "setdefault split splitlines startswith strip update upper values zfill bit_length".split())
BARRED = set(
    "register mro elements open input law version_info with_traceback add_note attrgetter breakpoint builtins compile "
    "copyright credits delattr dir eval exec exit gc globals help id importlib license locals methodcaller os quit "
    "super sys vars type typing enum Enum dataclass namedtuple Protocol Generic ABC".split())


def files():
    return sorted(FOLDER.rglob("*.py"))


def trees():
    return [(path.name, ast.parse(path.read_text(encoding="utf-8"))) for path in files()]


def nodes(*kinds):
    for name, tree in trees():
        for node in ast.walk(tree):
            if isinstance(node, kinds):
                yield name, node


def heads(body):
    """The functions among these statements with their parameters, and the names of the classes."""
    functions = [f"{node.name}({ast.unparse(node.args)})" for node in body if isinstance(node, ast.FunctionDef)]
    return functions + [node.name for node in body if isinstance(node, ast.ClassDef)]


def tree_of(module):
    return ast.parse((FOLDER / f"{module}.py").read_text(encoding="utf-8"))


def own_imports(tree):
    """The statements of a file that import from the package."""
    return [node for node in tree.body if isinstance(node, ast.ImportFrom) and node.module.startswith("rollwarden.")]


class TestInterface(unittest.TestCase):
    def test_each_name_is_defined_in_its_own_file(self):
        for module, names in INTERFACE.items():
            for name in names:
                with self.subTest(module=module, name=name):
                    self.assertIn(name, heads(tree_of(module).body))

    def test_each_method_is_defined_in_its_own_class(self):
        for (module, name), methods in METHODS.items():
            body = [node.body for node in tree_of(module).body if isinstance(node, ast.ClassDef) and node.name == name][0]
            for method in methods:
                with self.subTest(name=name, method=method):
                    self.assertIn(method, heads(body))


class TestRules(unittest.TestCase):
    def test_the_folder_contains_only_plainly_named_python_files(self):
        for path in FOLDER.rglob("*"):
            if path.name != "__pycache__" and path.parent.name != "__pycache__":
                self.assertRegex(path.name, r"\A[a-z0-9_]+(\.py)?\Z")
        self.assertTrue((FOLDER / "__init__.py").is_file())

    def test_characters_and_sizes(self):
        for path in files():
            text = path.read_text(encoding="utf-8")
            with self.subTest(path=path.name):
                self.assertIsNone(re.search(r"[^ -~\n]", text))
                self.assertLessEqual(len(text.splitlines()), 399)
                self.assertLessEqual(max(map(len, text.splitlines())), 120)

    def test_functions_are_short(self):
        for name, node in nodes(ast.FunctionDef):
            with self.subTest(file=name, function=node.name):
                self.assertLessEqual(node.end_lineno - node.lineno + 1, 40)

    def test_imports(self):
        self.assertEqual([name for name, _ in nodes(ast.Import)], [])
        for name, node in nodes(ast.ImportFrom):
            with self.subTest(file=name, line=node.lineno):
                self.assertEqual(node.level, 0)
                self.assertIn(node.module.split(".")[0], LIBRARY | {"rollwarden"})

    def test_each_attribute_that_is_read_is_assigned_by_a_class(self):
        assigned = {node.attr for _, node in nodes(ast.Attribute) if isinstance(node.ctx, ast.Store)}
        methods = {node.name for _, node in nodes(ast.FunctionDef)}
        for name, tree in trees():
            calls = {id(node.func) for node in ast.walk(tree) if isinstance(node, ast.Call)}
            for node in ast.walk(tree):
                if isinstance(node, ast.Attribute) and isinstance(node.ctx, ast.Load) and id(node) not in calls:
                    with self.subTest(file=name, line=node.lineno, attribute=node.attr):
                        self.assertIn(node.attr, assigned | methods)

    def test_no_name_is_that_of_a_builtin_or_barred(self):
        for name, tree in trees():
            for node in ast.walk(tree):
                if isinstance(node, (ast.FunctionDef, ast.ClassDef)):
                    bound = node.name
                elif isinstance(node, ast.arg):
                    bound = node.arg
                elif isinstance(node, ast.Name) and isinstance(node.ctx, ast.Store):
                    bound = node.id
                else:
                    continue
                with self.subTest(file=name, name=bound):
                    self.assertFalse(bound in vars(builtins) or bound in BARRED)
                    self.assertRegex(bound, r"\A([A-Za-z][A-Za-z0-9_]*|_|__init__)\Z")

    def test_an_underscore_alone_is_never_read(self):
        for name, node in nodes(ast.Name):
            self.assertFalse(node.id == "_" and isinstance(node.ctx, ast.Load), f"{name}: {node.lineno}")

    def test_builtins_and_their_methods(self):
        own = {node.name for _, node in nodes(ast.FunctionDef)}
        for name, node in nodes(ast.Call):
            with self.subTest(file=name, line=node.lineno):
                if isinstance(node.func, ast.Attribute):
                    self.assertIn(node.func.attr, BUILTIN_METHODS | own)
                elif node.func.id in vars(builtins):
                    self.assertIn(node.func.id, BUILTINS)

    def test_no_statement_is_barred(self):
        barred = (ast.Global, ast.AsyncFunctionDef, ast.AsyncFor, ast.AsyncWith, ast.Await, ast.Div, ast.AnnAssign)
        self.assertEqual([(name, node.lineno) for name, node in nodes(*barred)], [])
        for name, node in nodes(ast.FunctionDef, ast.ClassDef):
            self.assertEqual(node.decorator_list, [], f"{name}: {node.name}")

    def test_what_is_imported_is_defined_there_and_not_bound_again(self):
        for name, tree in trees():
            imports = own_imports(tree)
            imported = [alias.name for node in imports for alias in node.names]
            bound = {node.arg for node in ast.walk(tree) if isinstance(node, ast.arg)}
            bound |= {node.id for node in ast.walk(tree) if isinstance(node, ast.Name) and isinstance(node.ctx, ast.Store)}
            self.assertEqual(bound & set(imported), set(), name)
            self.assertEqual(len(set(imported)), len(imported), name)
            used = {node.id for node in ast.walk(tree) if isinstance(node, ast.Name)}
            self.assertLessEqual(set(imported), used, name)
            for node in imports:
                body = tree_of(node.module.split(".")[1]).body
                defined = {item.name for item in body if isinstance(item, (ast.FunctionDef, ast.ClassDef))}
                defined |= {item.targets[0].id for item in body if isinstance(item, ast.Assign)}
                self.assertLessEqual({alias.name for alias in node.names}, defined, f"{name}: {node.module}")

    def test_no_two_files_import_from_each_other(self):
        needs = {name[:-3]: {node.module.split(".")[1] for node in own_imports(tree)} for name, tree in trees()}
        while needs:
            free = [name for name, modules in needs.items() if not modules & set(needs)]
            self.assertNotEqual(free, [], f"a circle among {sorted(needs)}")
            needs = {name: modules for name, modules in needs.items() if name not in free}

    def test_python_gives_no_warning(self):
        for path in files():
            with warnings.catch_warnings():
                warnings.simplefilter("error")
                compile(path.read_text(encoding="utf-8"), path.name, "exec")


if __name__ == "__main__":
    unittest.main()
