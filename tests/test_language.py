"""Some rules of the language in which the package is written; what a test can't see is left to the reader."""

import ast
import builtins
import pathlib
import re
import unittest

PACKAGE = pathlib.Path(__file__).resolve().parent.parent / "giveway"
FILES = sorted(PACKAGE.rglob("*.py"))

BARRED = (
    "type", "typing", "typing_extensions", "enum", "Enum", "IntEnum", "StrEnum", "Flag", "IntFlag", "Generic",
    "Protocol", "ABC", "ABCMeta", "namedtuple", "NamedTuple", "TypedDict", "TYPE_CHECKING", "abstractmethod",
)
BUILTINS = (
    "len range enumerate zip min max sum abs sorted reversed int str bool list tuple dict set isinstance ord repr "
    "any all divmod iter next super ValueError NotImplementedError"
).split()


def trees():
    for file in FILES:
        yield file.name, ast.parse(file.read_text())


class TestLanguage(unittest.TestCase):
    def test_folder_has_plain_files_alone(self):
        for file in PACKAGE.rglob("*"):
            if "__pycache__" not in file.parts:
                self.assertRegex(file.name, r"^(__init__|[a-z][a-z0-9_]*)\.py$")

    def test_sizes_and_signs(self):
        for file in FILES:
            text = file.read_text()
            self.assertRegex(text, r"\A[ -~\n]*\Z", file.name)
            self.assertNotIn("%", text, file.name)
            self.assertLessEqual(len(text.splitlines()), 400, file.name)
            for line in text.splitlines():
                self.assertLessEqual(len(line), 120, f"{file.name}: {line}")

    def test_barred_words(self):
        for file in FILES:
            words = set(re.findall(r"\w+", file.read_text()))
            self.assertEqual(words & set(BARRED), set(), file.name)

    def test_functions_are_small(self):
        for name, tree in trees():
            for node in ast.walk(tree):
                if isinstance(node, ast.FunctionDef):
                    self.assertLessEqual(node.end_lineno - node.lineno + 1, 40, f"{name}: {node.name}")

    def test_imports_are_of_the_package(self):
        for name, tree in trees():
            for node in ast.walk(tree):
                self.assertNotIsInstance(node, ast.Import, name)
                if isinstance(node, ast.ImportFrom):
                    self.assertEqual(node.level, 0, name)
                    self.assertTrue(node.module.startswith("giveway."), name)

    def test_names(self):
        for name, tree in trees():
            for node in ast.walk(tree):
                if isinstance(node, ast.Name):
                    self.assertFalse(node.id.startswith("_"), f"{name}: {node.id}")
                    if isinstance(node.ctx, ast.Store):
                        self.assertNotIn(node.id, BUILTINS, name)
                if isinstance(node, ast.arg):
                    self.assertNotIn(node.arg, BUILTINS, name)

    def test_expressions(self):
        for name, tree in trees():
            for node in ast.walk(tree):
                self.assertNotIsInstance(node, (ast.Global, ast.Div, ast.AsyncFunctionDef), name)
                if isinstance(node, ast.Constant):
                    self.assertNotIsInstance(node.value, float, name)
                if isinstance(node, ast.Compare) and any(isinstance(op, (ast.Is, ast.IsNot)) for op in node.ops):
                    self.assertIsInstance(node.comparators[0], ast.Constant, name)
                if isinstance(node, ast.Call) and isinstance(node.func, ast.Name):
                    self.assertNotIn(node.func.id, ("print", "open", "input", "chr", "getattr", "hash", "id"), name)

    def test_no_name_is_both_a_method_and_an_attribute(self):
        methods, attributes = set(), set()
        for name, tree in trees():
            for node in ast.walk(tree):
                if isinstance(node, ast.ClassDef):
                    methods |= {part.name for part in node.body if isinstance(part, ast.FunctionDef)}
                if isinstance(node, ast.Attribute) and isinstance(node.ctx, ast.Store):
                    attributes.add(node.attr)
        self.assertEqual(methods & attributes, set())

    def test_no_local_name_is_that_of_an_import_or_a_class(self):
        for name, tree in trees():
            barred = {part.name for part in tree.body if isinstance(part, ast.ClassDef)}
            for node in tree.body:
                if isinstance(node, ast.ImportFrom):
                    barred |= {alias.name for alias in node.names}
            for node in ast.walk(tree):
                if isinstance(node, ast.Name) and isinstance(node.ctx, ast.Store):
                    self.assertNotIn(node.id, barred, name)
                if isinstance(node, ast.arg):
                    self.assertNotIn(node.arg, barred, name)
                if isinstance(node, (ast.MatchAs, ast.MatchStar)):
                    self.assertNotIn(node.name, barred | set(BUILTINS), name)

    def test_no_name_is_that_of_a_builtin(self):
        barred = {name for name in dir(builtins) if not name.startswith("_")}
        for name, tree in trees():
            for node in ast.walk(tree):
                if isinstance(node, ast.Name) and isinstance(node.ctx, ast.Store):
                    self.assertNotIn(node.id, barred, name)
                if isinstance(node, ast.arg):
                    self.assertNotIn(node.arg, barred, name)

    def test_a_name_is_bound_once_in_a_file(self):
        for name, tree in trees():
            bound = [part.name for part in tree.body if isinstance(part, (ast.FunctionDef, ast.ClassDef))]
            for node in tree.body:
                if isinstance(node, ast.ImportFrom):
                    bound += [alias.name for alias in node.names]
                if isinstance(node, ast.Assign):
                    bound += [target.id for target in node.targets]
            self.assertEqual(len(bound), len(set(bound)), name)

    def test_captured_names_are_assigned_nowhere_else(self):
        for name, tree in trees():
            for function in ast.walk(tree):
                if not isinstance(function, ast.FunctionDef):
                    continue
                nodes = list(ast.walk(function))
                captured = {node.name for node in nodes if isinstance(node, (ast.MatchAs, ast.MatchStar)) and node.name}
                stored = {node.id for node in nodes if isinstance(node, ast.Name) and isinstance(node.ctx, ast.Store)}
                stored |= {node.arg for node in nodes if isinstance(node, ast.arg)}
                self.assertEqual(captured & stored, set(), f"{name}: {function.name}")

    def test_attributes_that_are_read_are_assigned(self):
        stored, read = set(dir(str)) | set(dir(list)) | set(dir(dict)), set()
        for name, tree in trees():
            for node in ast.walk(tree):
                if isinstance(node, ast.ClassDef):
                    stored |= {part.name for part in node.body if isinstance(part, ast.FunctionDef)}
                if isinstance(node, ast.Attribute):
                    (stored if isinstance(node.ctx, ast.Store) else read).add(node.attr)
        self.assertEqual(read - stored, set())

    def test_no_two_files_import_from_each_other(self):
        imports = {}
        for name, tree in trees():
            imports[name] = [f"{node.module[8:]}.py" for node in tree.body if isinstance(node, ast.ImportFrom)]
        done = set()
        while len(done) < len(imports):
            ready = {name for name in imports if name not in done and set(imports[name]) <= done}
            self.assertTrue(ready, set(imports) - done)
            done |= ready

    def test_imports_name_the_file_that_defines_it(self):
        defined = {}
        for name, tree in trees():
            defined[name] = {part.name for part in tree.body if isinstance(part, (ast.FunctionDef, ast.ClassDef))}
            for node in tree.body:
                if isinstance(node, ast.Assign):
                    defined[name] |= {target.id for target in node.targets}
        for name, tree in trees():
            for node in tree.body:
                if isinstance(node, ast.ImportFrom):
                    for alias in node.names:
                        self.assertIn(alias.name, defined[f"{node.module[8:]}.py"], name)

    def test_no_import_is_idle(self):
        for name, tree in trees():
            words = [node.id for node in ast.walk(tree) if isinstance(node, ast.Name)]
            for node in tree.body:
                if isinstance(node, ast.ImportFrom):
                    for alias in node.names:
                        self.assertIn(alias.name, words, name)

    def test_errors_are_made_on_the_spot(self):
        for name, tree in trees():
            for node in ast.walk(tree):
                if isinstance(node, ast.Raise):
                    self.assertIsInstance(node.exc, ast.Call, name)


if __name__ == "__main__":
    unittest.main()
