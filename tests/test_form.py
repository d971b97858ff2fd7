"""The form of the package's files, as far as a short test can see the rules of LANGUAGE.md."""

import ast
import builtins
import pathlib
import re
import unittest
import warnings

PACKAGE = pathlib.Path(__file__).resolve().parent.parent / "bridgeyard"
FILES = sorted(PACKAGE.glob("*.py"))
TREES = {path: ast.parse(path.read_text(encoding="utf-8")) for path in FILES}

BUILTINS = set(
    "len range enumerate zip min max sum abs sorted reversed int str bool list tuple dict set isinstance ord repr "
    "any all divmod map iter next super property staticmethod classmethod Exception ValueError TypeError KeyError "
    "IndexError LookupError ZeroDivisionError RuntimeError NotImplementedError NotImplemented StopIteration".split()
)
METHODS = set(
    "append clear copy count endswith extend find get index insert isalnum isalpha isdigit islower isspace isupper "
    "items join keys ljust lower lstrip partition pop remove replace reverse rfind rjust rpartition rsplit rstrip "
    "setdefault split splitlines startswith strip update upper values zfill bit_length add discard isascii isdecimal "
    "__init__".split()
)
BARRED_NODES = (
    ast.Import, ast.Global, ast.AsyncFunctionDef, ast.AsyncFor, ast.AsyncWith, ast.Await, ast.Div, ast.MatMult,
)
BARRED_NAMES = set(
    "register mro elements open input law version_info with_traceback add_note compile dir eval exec exit gc globals "
    "help id locals os quit type vars sys print hash format object float bytes bytearray frozenset".split()
)
BARRED_WORDS = re.compile(
    r"\b(type|typing|typing_extensions|enum|Enum|IntEnum|StrEnum|Flag|IntFlag|Generic|Protocol|ABC|ABCMeta"
    r"|namedtuple|NamedTuple|TypedDict|TYPE_CHECKING|abstractmethod)\b|dataclass|overload|contextmanager"
)
SPECIAL = {"__init__", "__eq__", "__repr__", "__str__", "__len__", "__iter__", "__call__", "__enter__", "__exit__"}


def nodes(kinds):
    for path, parsed in TREES.items():
        for node in ast.walk(parsed):
            if isinstance(node, kinds):
                yield path, node


def where(path, node):
    return f"{path.name}:{node.lineno}"


def docstrings(parsed):
    for node in ast.walk(parsed):
        if isinstance(node, (ast.Module, ast.ClassDef, ast.FunctionDef)) and ast.get_docstring(node) is not None:
            yield node.body[0].value


def bound(parsed):
    """The names that a file binds at module level itself."""
    names = []
    for node in parsed.body:
        if isinstance(node, (ast.FunctionDef, ast.ClassDef)):
            names.append(node.name)
        elif isinstance(node, ast.Assign):
            names += [target.id for target in node.targets]
    return names


class FilesTest(unittest.TestCase):
    def test_the_folder_holds_python_files_alone(self):
        names = [path.name for path in PACKAGE.iterdir() if path.name != "__pycache__"]
        self.assertIn("__init__.py", names)
        for name in names:
            self.assertRegex(name, r"\A(__init__|[a-z][a-z0-9_]*)\.py\Z")
            self.assertNotRegex(name, r"\A(test|law_|site|conftest)")

    def test_sizes_and_characters(self):
        for path in FILES:
            text = path.read_text(encoding="utf-8")
            self.assertRegex(text, r"\A[ -~\n]*\Z", path.name)
            self.assertNotRegex(text, r"_wall\b|_WallAttr", path.name)
            lines = text.split("\n")
            self.assertLessEqual(len(lines), 400, path.name)
            for number, line in enumerate(lines, 1):
                self.assertLessEqual(len(line), 120, f"{path.name}:{number}")

    def test_python_gives_no_warning(self):
        with warnings.catch_warnings():
            warnings.simplefilter("error")
            for path in FILES:
                compile(path.read_text(encoding="utf-8"), path.name, "exec")

    def test_functions_are_short(self):
        for path, node in nodes(ast.FunctionDef):
            self.assertLessEqual(node.end_lineno - node.lineno + 1, 40, where(path, node))


class ImportsTest(unittest.TestCase):
    def test_each_names_the_file_that_defines_it(self):
        for path, node in nodes(ast.ImportFrom):
            self.assertIn(node, TREES[path].body, where(path, node))
            self.assertEqual(node.level, 0, where(path, node))
            self.assertRegex(node.module, r"\Abridgeyard\.[a-z]+\Z", where(path, node))
            source = PACKAGE / (node.module.split(".")[1] + ".py")
            for alias in node.names:
                self.assertIsNone(alias.asname, where(path, node))
                self.assertIn(alias.name, bound(TREES[source]), where(path, node))

    def test_they_stand_at_the_top(self):
        for path, parsed in TREES.items():
            body = parsed.body[1:]
            kinds = [isinstance(node, ast.ImportFrom) for node in body]
            self.assertEqual(kinds, sorted(kinds, reverse=True), path.name)

    def test_no_ring_of_imports(self):
        needs = {path.stem: set() for path in FILES}
        for path, node in nodes(ast.ImportFrom):
            needs[path.stem].add(node.module.split(".")[1])
        while needs:
            free = [file for file, others in needs.items() if not others & set(needs)]
            self.assertTrue(free, sorted(needs))
            needs = {file: others for file, others in needs.items() if file not in free}

    def test_each_name_that_is_imported_is_used(self):
        for path, parsed in TREES.items():
            used = {node.id for node in ast.walk(parsed) if isinstance(node, ast.Name)}
            for node in parsed.body:
                if isinstance(node, ast.ImportFrom):
                    self.assertEqual([], [alias.name for alias in node.names if alias.name not in used], path.name)


class NamesTest(unittest.TestCase):
    def test_each_name_is_bound_once(self):
        for path, parsed in TREES.items():
            names = bound(parsed)
            for node in parsed.body:
                if isinstance(node, ast.ImportFrom):
                    names += [alias.name for alias in node.names]
            self.assertEqual(sorted(names), sorted(set(names)), path.name)

    def test_no_builtin_beyond_the_list_and_none_bound_anew(self):
        for path, node in nodes(ast.Name):
            if isinstance(node.ctx, ast.Load):
                self.assertTrue(node.id in BUILTINS or node.id not in dir(builtins), where(path, node))
            else:
                self.assertNotIn(node.id, dir(builtins), where(path, node))
        for path, node in nodes(ast.arg):
            self.assertNotIn(node.arg, dir(builtins), where(path, node))

    def test_no_barred_name(self):
        for path, parsed in TREES.items():
            for node in ast.walk(parsed):
                for field in ("id", "attr", "arg", "name"):
                    word = getattr(node, field, None)
                    if isinstance(word, str):
                        self.assertNotIn(word, BARRED_NAMES, path.name)
                        self.assertTrue(word in SPECIAL or not word.startswith("__"), path.name)

    def test_no_local_name_of_an_import_or_a_class(self):
        for path, parsed in TREES.items():
            taken = {alias.name for node in parsed.body if isinstance(node, ast.ImportFrom) for alias in node.names}
            taken |= {node.name for node in parsed.body if isinstance(node, ast.ClassDef)}
            for node in ast.walk(parsed):
                if isinstance(node, ast.arg):
                    self.assertNotIn(node.arg, taken, path.name)
                if isinstance(node, ast.Name) and isinstance(node.ctx, ast.Store):
                    self.assertNotIn(node.id, taken, path.name)

    def test_methods_that_are_called_are_own_or_listed(self):
        own = {node.name for _, node in nodes(ast.FunctionDef)}
        for path, node in nodes(ast.Call):
            if isinstance(node.func, ast.Attribute):
                self.assertIn(node.func.attr, METHODS | own, where(path, node))


class StatementsTest(unittest.TestCase):
    def test_nothing_barred(self):
        for path, node in nodes(BARRED_NODES):
            self.fail(f"{path.name}: {ast.dump(node)}")

    def test_no_decorators(self):
        for path, node in nodes((ast.FunctionDef, ast.ClassDef)):
            self.assertEqual(node.decorator_list, [], where(path, node))

    def test_captured_names_are_no_parameters_and_no_other_locals(self):
        for path, node in nodes(ast.FunctionDef):
            captured = {inner.name for inner in ast.walk(node) if isinstance(inner, ast.MatchAs)} - {None}
            taken = {inner.arg for inner in ast.walk(node) if isinstance(inner, ast.arg)}
            for inner in ast.walk(node):
                if isinstance(inner, ast.Name) and isinstance(inner.ctx, ast.Store):
                    taken.add(inner.id)
            self.assertEqual(captured & taken, set(), where(path, node))

    def test_what_stands_in_a_finally_is_simple(self):
        for path, node in nodes(ast.Try):
            for row in node.finalbody:
                self.assertIsInstance(row, (ast.Assign, ast.Expr), where(path, row))
                for inner in ast.walk(row):
                    self.assertNotIsInstance(inner, (ast.Subscript, ast.BinOp, ast.UnaryOp), where(path, row))
                    if isinstance(inner, ast.Call):
                        self.assertIn(inner.func.attr, ("append", "clear"), where(path, row))

    def test_only_own_errors_are_caught(self):
        own = bound(TREES[PACKAGE / "errors.py"])
        for path, node in nodes(ast.ExceptHandler):
            self.assertIsInstance(node.type, ast.Name, where(path, node))
            self.assertIn(node.type.id, own, where(path, node))

    def test_module_level_holds_plain_values_alone(self):
        for path, parsed in TREES.items():
            kinds = (ast.ImportFrom, ast.FunctionDef, ast.ClassDef, ast.Assign)
            for node in parsed.body[1:]:
                self.assertIsInstance(node, kinds, where(path, node))
                if isinstance(node, ast.Assign):
                    calls = [inner for inner in ast.walk(node) if isinstance(inner, ast.Call)]
                    self.assertEqual(calls, [], where(path, node))

    def test_numbers_and_strings(self):
        for path, parsed in TREES.items():
            notes = list(docstrings(parsed))
            for node in ast.walk(parsed):
                if not isinstance(node, ast.Constant):
                    continue
                self.assertNotIsInstance(node.value, (float, complex), where(path, node))
                if isinstance(node.value, str):
                    self.assertNotIn("%", node.value, where(path, node))
                    if node not in notes:
                        self.assertIsNone(BARRED_WORDS.search(node.value), where(path, node))

    def test_each_file_class_and_plain_function_tells_what_it_is(self):
        for path, parsed in TREES.items():
            self.assertTrue(ast.get_docstring(parsed), path.name)
            for node in parsed.body:
                if isinstance(node, (ast.FunctionDef, ast.ClassDef)) and not node.name.startswith("_"):
                    self.assertTrue(ast.get_docstring(node), where(path, node))


if __name__ == "__main__":
    unittest.main()
