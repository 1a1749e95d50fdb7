"""The rules of the language that a short program can check: files, characters, sizes, imports, names."""

import ast
import builtins
import pathlib
import re
import unittest

PACKAGE = pathlib.Path(__file__).parent.parent / "typefault"
LIBRARY = ("heapq", "math", "itertools", "collections")
FUNCTIONS = (ast.FunctionDef, ast.AsyncFunctionDef)
BUILTINS = set("""len range enumerate zip min max sum abs sorted reversed int str bool list tuple dict set isinstance
    ord repr any all divmod iter next super property staticmethod classmethod
    Exception ValueError KeyError IndexError LookupError TypeError NotImplemented""".split())
METHODS = set("""append clear copy count endswith extend find get index insert isalnum isalpha isdigit islower isspace
    isupper items join keys ljust lower lstrip partition pop remove replace reverse rfind rjust rpartition rsplit
    rstrip setdefault split splitlines startswith strip update upper values zfill bit_length add discard
    __init__""".split())


def files():
    return sorted(path for path in PACKAGE.rglob("*") if path.is_file() and "__pycache__" not in path.parts)


def bound_names(tree):
    """The names that a module binds at its top, each as often as it is bound."""
    names = []
    for node in tree.body:
        if isinstance(node, ast.ImportFrom):
            names += [alias.asname or alias.name for alias in node.names]
        elif isinstance(node, (ast.FunctionDef, ast.ClassDef)):
            names.append(node.name)
        elif isinstance(node, ast.Assign):
            names += [target.id for target in node.targets]
    return names


def imports_and_classes(tree):
    names = set()
    for node in tree.body:
        if isinstance(node, ast.ImportFrom):
            names |= {alias.asname or alias.name for alias in node.names}
        elif isinstance(node, ast.ClassDef):
            names.add(node.name)
    return names


def local_names(tree):
    """The names of all parameters and local variables of a module."""
    names = set()
    for function in ast.walk(tree):
        if isinstance(function, FUNCTIONS):
            names |= {node.arg for node in ast.walk(function) if isinstance(node, ast.arg)}
            names |= {node.id for node in ast.walk(function)
                      if isinstance(node, ast.Name) and isinstance(node.ctx, ast.Store)}
    return names


def asks_for_none_only(test):
    """Tell whether a test is a name or attribute and `is None` or `is not None`, or `and`, `or`, `not` of such."""
    if isinstance(test, ast.BoolOp):
        return all(asks_for_none_only(value) for value in test.values)
    if isinstance(test, ast.UnaryOp):
        return isinstance(test.op, ast.Not) and asks_for_none_only(test.operand)
    return (isinstance(test, ast.Compare) and isinstance(test.left, (ast.Name, ast.Attribute))
            and len(test.ops) == 1 and isinstance(test.ops[0], (ast.Is, ast.IsNot))
            and isinstance(test.comparators[0], ast.Constant) and test.comparators[0].value is None)


class LanguageTest(unittest.TestCase):
    def test_the_folder_contains_plain_files_only(self):
        self.assertIn(PACKAGE / "__init__.py", files())
        for path in files():
            self.assertRegex(path.name, r"^[a-z0-9_]+\.py$")

    def test_characters_and_sizes(self):
        for path in files():
            text = path.read_text(encoding="utf-8")
            with self.subTest(file=path.name):
                self.assertIsNone(re.search(r"[^ -~\n]", text))
                self.assertLessEqual(text.count("\n"), 399)
                self.assertLessEqual(max(len(line) for line in text.split("\n")), 120)

    def test_functions_have_at_most_forty_lines(self):
        for path in files():
            for node in ast.walk(ast.parse(path.read_text(encoding="utf-8"))):
                if isinstance(node, FUNCTIONS):
                    with self.subTest(file=path.name, function=node.name):
                        self.assertLessEqual(node.end_lineno - node.lineno + 1, 40)

    def test_an_exit_asks_for_none_only(self):
        asked = 0
        for path in files():
            for function in ast.walk(ast.parse(path.read_text(encoding="utf-8"))):
                if isinstance(function, FUNCTIONS) and function.name == "__exit__":
                    for node in ast.walk(function):
                        if isinstance(node, ast.If):
                            asked += 1
                            with self.subTest(file=path.name, line=node.lineno):
                                self.assertTrue(asks_for_none_only(node.test))
        self.assertGreater(asked, 0)

    def test_imports_come_from_the_package_or_the_named_library(self):
        for path in files():
            for node in ast.walk(ast.parse(path.read_text(encoding="utf-8"))):
                self.assertNotIsInstance(node, ast.Import, path.name)
                if isinstance(node, ast.ImportFrom):
                    self.assertEqual(node.level, 0, path.name)
                    self.assertIn(node.module.split(".")[0], ("typefault",) + LIBRARY, path.name)

    def test_a_name_is_bound_once_in_its_file(self):
        for path in files():
            names = bound_names(ast.parse(path.read_text(encoding="utf-8")))
            with self.subTest(file=path.name):
                self.assertEqual(sorted(names), sorted(set(names)))

    def test_local_names_are_no_builtins_imports_or_classes(self):
        for path in files():
            tree = ast.parse(path.read_text(encoding="utf-8"))
            taken = set(dir(builtins)) | imports_and_classes(tree)
            with self.subTest(file=path.name):
                self.assertEqual(sorted(local_names(tree) & taken), [])

    def test_builtins_that_are_called_are_allowed(self):
        for path in files():
            for node in ast.walk(ast.parse(path.read_text(encoding="utf-8"))):
                if isinstance(node, ast.Name) and node.id in dir(builtins):
                    with self.subTest(file=path.name, line=node.lineno):
                        self.assertIn(node.id, BUILTINS)

    def test_methods_of_builtin_values_are_allowed(self):
        own = {node.name for path in files() for node in ast.walk(ast.parse(path.read_text(encoding="utf-8")))
               if isinstance(node, ast.FunctionDef)}
        for path in files():
            for node in ast.walk(ast.parse(path.read_text(encoding="utf-8"))):
                if isinstance(node, ast.Call) and isinstance(node.func, ast.Attribute):
                    with self.subTest(file=path.name, line=node.lineno):
                        self.assertIn(node.func.attr, own | METHODS)

    def test_statements_and_expressions_that_are_not_used(self):
        barred = (ast.AsyncFunctionDef, ast.Await, ast.Global)
        for path in files():
            for node in ast.walk(ast.parse(path.read_text(encoding="utf-8"))):
                with self.subTest(file=path.name, line=getattr(node, "lineno", 0)):
                    self.assertNotIsInstance(node, barred)
                    self.assertNotIsInstance(getattr(node, "op", None), (ast.Div, ast.MatMult))
                    if isinstance(node, ast.Constant):
                        self.assertNotIsInstance(node.value, (float, complex, bytes))
                    if isinstance(node, ast.Constant) and isinstance(node.value, str):
                        self.assertNotIn("%", node.value)
                    if isinstance(node, ast.Call) and getattr(node.func, "id", "") in ("any", "all", "sorted", "sum"):
                        self.assertNotIsInstance(node.args[0], ast.GeneratorExp)
