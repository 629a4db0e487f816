"""The form of the package: those rules of LANGUAGE.md that can be told from the code alone, in short."""

import ast
import builtins
import pathlib
import re
import unittest
import warnings

PACKAGE = pathlib.Path(__file__).resolve().parent.parent / "raytrain"
LIBRARY = {
    "heapq": {"heappush", "heappop", "heapify", "heapreplace", "heappushpop"},
    "math": {"gcd", "lcm", "isqrt", "comb", "perm", "factorial"},
    "itertools": {"product", "combinations", "permutations", "chain", "accumulate", "pairwise", "islice",
                  "zip_longest"},
    "collections": {"defaultdict"},
}
CALLABLE_BUILTINS = set(
    "len range enumerate zip min max sum abs sorted reversed int str bool list tuple dict set frozenset"
    " isinstance ord repr any all divmod pow getattr hasattr setattr iter next map super".split())
ERRORS = set(
    "Exception ValueError TypeError KeyError IndexError LookupError ZeroDivisionError ArithmeticError"
    " OverflowError RuntimeError NotImplementedError AttributeError StopIteration NotImplemented".split())
BARRED_NAMES = set("register mro elements open input law version_info with_traceback add_note".split())
BARRED_WORDS = set(
    "type typing typing_extensions enum Enum IntEnum StrEnum Flag IntFlag Generic Protocol ABC ABCMeta"
    " namedtuple NamedTuple TypedDict TYPE_CHECKING abstractmethod".split())
METHODS = set(
    "append clear copy count endswith extend find get index insert isalnum isalpha isdigit islower isspace isupper"
    " items join keys ljust lower lstrip partition pop remove replace reverse rfind rjust rpartition rsplit rstrip"
    " setdefault split splitlines startswith strip update upper values zfill bit_length title capitalize swapcase"
    " casefold center expandtabs removeprefix removesuffix rindex isascii isdecimal isnumeric istitle isidentifier"
    " isprintable translate encode decode add discard sort format".split())
STATEMENTS = (
    ast.Assign, ast.AugAssign, ast.AnnAssign, ast.If, ast.While, ast.For, ast.Return, ast.Break, ast.Continue,
    ast.Pass, ast.Raise, ast.Assert, ast.Delete, ast.Nonlocal, ast.Match, ast.With, ast.Try, ast.Expr,
    ast.FunctionDef, ast.ClassDef, ast.ImportFrom,
)


def sources():
    """Return the tuples (path, text, tree) of all files of the package."""
    found = []
    for path in sorted(PACKAGE.rglob("*.py")):
        text = path.read_text(encoding="utf-8")
        found.append((path, text, ast.parse(text)))
    return found


def bound_names(tree):
    """Return the names that a file binds: functions, classes, parameters, imports, variables, handlers."""
    names = set()
    for node in ast.walk(tree):
        if isinstance(node, (ast.FunctionDef, ast.ClassDef)):
            names.add(node.name)
        elif isinstance(node, ast.arg):
            names.add(node.arg)
        elif isinstance(node, ast.alias):
            names.add(node.asname or node.name)
        elif isinstance(node, ast.Name) and isinstance(node.ctx, ast.Store):
            names.add(node.id)
        elif isinstance(node, (ast.ExceptHandler, ast.MatchAs, ast.MatchStar)) and node.name:
            names.add(node.name)
    return names


def methods_of(tree):
    """Return the names of the methods of all classes of a file."""
    classes = [node for node in ast.walk(tree) if isinstance(node, ast.ClassDef)]
    return {part.name for found in classes for part in found.body if isinstance(part, ast.FunctionDef)}


def imports_of(tree):
    """Return the names of the modules from which a file imports."""
    return [node.module for node in ast.walk(tree) if isinstance(node, ast.ImportFrom)]


class Files(unittest.TestCase):
    def test_the_folder_contains_only_files_with_plain_names(self):
        for path in PACKAGE.rglob("*"):
            if "__pycache__" not in path.parts:
                self.assertRegex(path.name, r"^([a-z][a-z0-9_]*|__init__|__main__)(\.py)?$")
        self.assertTrue((PACKAGE / "__init__.py").is_file())

    def test_sizes_and_characters(self):
        for path, text, tree in sources():
            with self.subTest(path.name):
                self.assertRegex(text, r"\A[ -~\n]*\Z")
                self.assertLessEqual(len(text.splitlines()), 399)
                self.assertLessEqual(max([len(line) for line in text.splitlines()], default=0), 120)
                for node in ast.walk(tree):
                    if isinstance(node, ast.FunctionDef):
                        self.assertLessEqual(node.end_lineno - node.lineno + 1, 40, node.name)

    def test_python_gives_no_warning(self):
        for path, text, _ in sources():
            with self.subTest(path.name), warnings.catch_warnings():
                warnings.simplefilter("error")
                compile(text, str(path), "exec")


class Statements(unittest.TestCase):
    def test_only_the_allowed_ones(self):
        for path, _, tree in sources():
            for node in ast.walk(tree):
                if isinstance(node, ast.stmt):
                    self.assertIsInstance(node, STATEMENTS, f"{path.name}:{node.lineno}")

    def test_module_level(self):
        for path, _, tree in sources():
            for node in tree.body:
                with self.subTest(path.name, line=node.lineno):
                    if isinstance(node, ast.Expr):
                        self.assertIsInstance(node.value.value, str)
                    else:
                        self.assertIsInstance(node, (ast.ImportFrom, ast.FunctionDef, ast.ClassDef, ast.Assign))

    def test_no_division_and_no_float(self):
        for path, _, tree in sources():
            for node in ast.walk(tree):
                self.assertNotIsInstance(node, ast.Div, path.name)
                if isinstance(node, ast.Constant):
                    self.assertNotIsInstance(node.value, (float, complex), path.name)


class Imports(unittest.TestCase):
    def test_what_is_imported(self):
        for path, _, tree in sources():
            for node in [node for node in ast.walk(tree) if isinstance(node, ast.ImportFrom)]:
                names = {alias.name for alias in node.names}
                with self.subTest(path.name, line=node.lineno):
                    self.assertEqual(node.level, 0)
                    if node.module in LIBRARY:
                        self.assertLessEqual(names, LIBRARY[node.module])
                    else:
                        self.assertTrue(node.module.startswith("raytrain."))
                        self.assertNotIn("*", names)
                        self.assertLessEqual(names, self.defined_in(node.module))

    def defined_in(self, module):
        tree = ast.parse((PACKAGE / (module.partition(".")[2].replace(".", "/") + ".py")).read_text())
        names = {node.name for node in tree.body if isinstance(node, (ast.FunctionDef, ast.ClassDef))}
        assigned = [node for node in tree.body if isinstance(node, ast.Assign)]
        return names | {target.id for node in assigned for target in node.targets}

    def test_no_circles(self):
        graph = {f"raytrain.{path.stem}": imports_of(tree) for path, _, tree in sources()}

        def visit(module, above):
            self.assertNotIn(module, above)
            for other in graph.get(module, []):
                visit(other, above + [module])

        for module in graph:
            visit(module, [])


class Names(unittest.TestCase):
    def test_no_builtin_gets_another_meaning(self):
        for path, _, tree in sources():
            with self.subTest(path.name):
                names = bound_names(tree) - methods_of(tree)
                self.assertEqual(names & set(dir(builtins)), set())
                self.assertEqual((names | methods_of(tree)) & (CALLABLE_BUILTINS | ERRORS), set())

    def test_barred_names(self):
        for path, text, tree in sources():
            with self.subTest(path.name):
                attributes = {node.attr for node in ast.walk(tree) if isinstance(node, ast.Attribute)}
                self.assertEqual((bound_names(tree) | methods_of(tree) | attributes) & BARRED_NAMES, set())

    def test_barred_words(self):
        for path, text, _ in sources():
            with self.subTest(path.name):
                words = set(re.findall(r"\w+", text))
                self.assertEqual(words & BARRED_WORDS, set())

    def test_only_allowed_builtins_are_used(self):
        for path, _, tree in sources():
            for node in ast.walk(tree):
                if isinstance(node, ast.Name) and node.id in dir(builtins):
                    self.assertIn(node.id, CALLABLE_BUILTINS | ERRORS, f"{path.name}:{node.lineno}")

    def test_only_allowed_methods_are_called(self):
        own = {name for _, _, tree in sources() for name in methods_of(tree)} | {"__init__"}
        for path, _, tree in sources():
            for node in ast.walk(tree):
                if isinstance(node, ast.Call) and isinstance(node.func, ast.Attribute):
                    self.assertIn(node.func.attr, METHODS | own, f"{path.name}:{node.lineno}")

    def test_all_that_is_imported_is_used(self):
        for path, _, tree in sources():
            imported = {alias.name for node in ast.walk(tree) if isinstance(node, ast.ImportFrom)
                        for alias in node.names}
            used = {node.id for node in ast.walk(tree) if isinstance(node, ast.Name)}
            if path.stem != "__init__":
                self.assertEqual(imported - used, set(), path.name)

    def test_no_local_name_is_that_of_an_import_or_a_class(self):
        for path, _, tree in sources():
            imported = {alias.name for node in ast.walk(tree) if isinstance(node, ast.ImportFrom)
                        for alias in node.names}
            classes = {node.name for node in ast.walk(tree) if isinstance(node, ast.ClassDef)}
            for function in [node for node in ast.walk(tree) if isinstance(node, ast.FunctionDef)]:
                with self.subTest(path.name, function=function.name):
                    inside = bound_names(function) - {function.name}
                    self.assertEqual(inside & (imported | classes), set())


if __name__ == "__main__":
    unittest.main()
