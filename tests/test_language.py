"""The form of the package's code, as far as a script easily sees it."""

import ast
import builtins
import re
import unittest
import warnings
from pathlib import Path

PACKAGE = Path(__file__).resolve().parent.parent / "nearadds"
FILES = sorted(PACKAGE.rglob("*.py"))

LIBRARY = {
    "heapq": {"heappush", "heappop", "heapify", "heapreplace", "heappushpop"},
    "math": {"gcd", "lcm", "isqrt", "comb", "perm", "factorial"},
    "itertools": {"product", "combinations", "permutations", "chain", "accumulate", "pairwise", "islice",
                  "zip_longest"},
    "collections": {"defaultdict", "deque"},
}
BUILTINS = set(
    "len range enumerate zip min max sum abs sorted reversed int str bool bytes list tuple dict set frozenset "
    "isinstance ord repr any all divmod pow getattr hasattr setattr iter next map type Exception ValueError TypeError "
    "KeyError IndexError LookupError ZeroDivisionError ArithmeticError OverflowError RuntimeError "
    "NotImplementedError AttributeError StopIteration NotImplemented property staticmethod classmethod super".split())
METHODS = set(
    "append clear copy count endswith extend find get index insert isalnum isalpha isdigit islower isspace isupper "
    "items join keys ljust lower lstrip partition pop remove replace reverse rfind rjust rpartition rsplit rstrip "
    "setdefault split splitlines startswith strip update upper values zfill bit_length add discard".split())
BARRED_NAMES = set(
    "register mro elements open input law version_info with_traceback add_note attrgetter breakpoint builtins compile "
    "copyright credits delattr dir eval exec exit gc globals help id importlib license locals methodcaller os quit "
    "vars sys".split())
BARRED_WORDS = set(
    "typing typing_extensions enum Enum IntEnum StrEnum Flag IntFlag Generic Protocol ABC ABCMeta namedtuple "
    "NamedTuple TypedDict TYPE_CHECKING abstractmethod dataclass overload contextmanager _wall _WallAttr".split())
DECORATORS = {"property", "staticmethod", "classmethod"}
NODES = (ast.AsyncFunctionDef, ast.AsyncFor, ast.AsyncWith, ast.Await, ast.Global, ast.Div, ast.MatMult)


def trees():
    return [(path, ast.parse(path.read_text(encoding="utf-8"))) for path in FILES]


def defined(tree):
    """The names that the rows of a file bind at module level, imports aside."""
    found = []
    for node in tree.body:
        if isinstance(node, (ast.FunctionDef, ast.ClassDef)):
            found.append(node.name)
        if isinstance(node, ast.Assign):
            found += [target.id for target in node.targets]
    return found


def module_of(path):
    parts = path.relative_to(PACKAGE.parent).with_suffix("").parts
    return ".".join(parts[:-1] if parts[-1] == "__init__" else parts)


def docstrings(tree):
    kinds = (ast.Module, ast.FunctionDef, ast.ClassDef)
    owners = [node for node in ast.walk(tree) if isinstance(node, kinds) and ast.get_docstring(node) is not None]
    return {id(node.body[0].value) for node in owners}


def bound_names(tree):
    """All names that a file gives to something of its own."""
    for node in ast.walk(tree):
        if isinstance(node, (ast.FunctionDef, ast.ClassDef)):
            yield node.name
        elif isinstance(node, ast.Name) and isinstance(node.ctx, ast.Store):
            yield node.id
        elif isinstance(node, ast.arg):
            yield node.arg
        elif isinstance(node, ast.alias):
            yield node.asname or node.name


class Files(unittest.TestCase):

    def test_the_folder_holds_plain_python_files_only(self):
        found = [path for path in PACKAGE.rglob("*") if "__pycache__" not in path.parts]
        self.assertTrue(FILES)
        self.assertLessEqual(len(FILES), 100)
        for path in found:
            self.assertTrue(path.is_dir() or re.fullmatch(r"[a-z0-9_]+\.py", path.name), path)
        for folder in [PACKAGE] + [path for path in found if path.is_dir()]:
            self.assertTrue((folder / "__init__.py").exists())

    def test_lines_and_characters(self):
        for path in FILES:
            text = path.read_bytes().decode("ascii")
            self.assertTrue(text.endswith("\n"))
            self.assertFalse(set(text) - {"\n"} - {chr(k) for k in range(32, 127)}, path)
            self.assertLessEqual(len(text.splitlines()), 399, path)
            for number, line in enumerate(text.splitlines(), 1):
                self.assertLessEqual(len(line), 120, f"{path}:{number}")

    def test_functions_have_at_most_40_lines(self):
        for path, tree in trees():
            for node in ast.walk(tree):
                if isinstance(node, ast.FunctionDef):
                    self.assertLessEqual(node.end_lineno - node.lineno + 1, 40, f"{path}:{node.lineno}")

    def test_python_gives_no_warning(self):
        for path in FILES:
            with warnings.catch_warnings():
                warnings.simplefilter("error")
                compile(path.read_text(encoding="utf-8"), str(path), "exec")


class Imports(unittest.TestCase):

    def test_imports_name_the_very_file_that_defines_a_name(self):
        known = {module_of(path): defined(tree) for path, tree in trees()}
        for path, tree in trees():
            for node in ast.walk(tree):
                self.assertNotIsInstance(node, ast.Import, path)
                if isinstance(node, ast.ImportFrom):
                    self.assertIn(node, tree.body)
                    self.assertEqual(node.level, 0)
                    names = LIBRARY[node.module] if node.module in LIBRARY else known[node.module]
                    self.assertEqual([alias.name for alias in node.names if alias.name not in names], [])
                    self.assertEqual([alias.asname for alias in node.names if alias.asname], [])

    def test_imports_stand_at_the_top(self):
        for path, tree in trees():
            body = tree.body[1:] if ast.get_docstring(tree) is not None else tree.body
            kinds = [isinstance(node, ast.ImportFrom) for node in body]
            self.assertEqual(kinds, sorted(kinds, reverse=True), path)

    def test_each_import_is_used(self):
        for path, tree in trees():
            used = {node.id for node in ast.walk(tree) if isinstance(node, ast.Name)}
            for node in tree.body:
                if isinstance(node, ast.ImportFrom):
                    self.assertFalse({alias.name for alias in node.names} - used, path)

    def test_no_two_files_import_from_each_other(self):
        asked = {}
        for path, tree in trees():
            found = [node.module for node in tree.body if isinstance(node, ast.ImportFrom)]
            asked[module_of(path)] = [name for name in found if name not in LIBRARY]
        while asked:
            free = [name for name in asked if not [other for other in asked[name] if other in asked]]
            self.assertTrue(free, asked)
            for name in free:
                del asked[name]


class Code(unittest.TestCase):

    def test_module_level(self):
        for path, tree in trees():
            body = tree.body[1:] if ast.get_docstring(tree) is not None else tree.body
            for node in body:
                self.assertIsInstance(node, (ast.ImportFrom, ast.FunctionDef, ast.ClassDef, ast.Assign), path)
                if isinstance(node, ast.Assign):
                    self.assertEqual([type(target) for target in node.targets], [ast.Name])
            imported = [alias.name for node in body if isinstance(node, ast.ImportFrom) for alias in node.names]
            names = defined(tree) + imported
            self.assertEqual(len(names), len(set(names)), path)

    def test_no_name_of_a_function_is_that_of_an_import(self):
        for path, tree in trees():
            imported = {alias.name for node in tree.body if isinstance(node, ast.ImportFrom) for alias in node.names}
            for node in ast.walk(tree):
                if isinstance(node, ast.FunctionDef):
                    self.assertFalse(imported & set(bound_names(node)), f"{path}:{node.lineno}")

    def test_iterators_are_not_kept(self):
        for path, tree in trees():
            for node in ast.walk(tree):
                if isinstance(node, ast.Assign) and isinstance(node.value, ast.Call):
                    called = getattr(node.value.func, "id", getattr(node.value.func, "attr", None))
                    kept = ("zip", "enumerate", "reversed", "map", "iter", "items", "keys", "values", "combinations")
                    self.assertNotIn(called, kept, f"{path}:{node.lineno}")

    def test_powers_by_squaring_are_own_functions(self):
        for path, tree in trees():
            for node in ast.walk(tree):
                if isinstance(node, ast.Call) and isinstance(node.func, ast.Name):
                    self.assertNotIn(node.func.id, ("pow", "bytes", "chr", "frozenset"), f"{path}:{node.lineno}")

    def test_nodes_that_are_not_used(self):
        for path, tree in trees():
            told = docstrings(tree)
            for node in ast.walk(tree):
                self.assertNotIsInstance(node, NODES, path)
                if isinstance(node, ast.Constant):
                    self.assertNotIsInstance(node.value, (float, complex))
                    if isinstance(node.value, str) and id(node) not in told:
                        self.assertNotIn(chr(37), node.value)
                if isinstance(node, ast.BinOp) and isinstance(node.op, ast.Pow):
                    self.assertIsInstance(node.right, ast.Constant, f"{path}:{node.lineno}")
                    self.assertIn(node.right.value, range(65))
                if isinstance(node, ast.Compare):
                    for sign, side in zip(node.ops, node.comparators):
                        if isinstance(sign, (ast.Is, ast.IsNot)):
                            self.assertIn(getattr(side, "value", 0), (None, True, False))

    def test_decorators(self):
        for path, tree in trees():
            for node in ast.walk(tree):
                for told in getattr(node, "decorator_list", []):
                    plain = isinstance(told, ast.Name) and told.id in DECORATORS
                    self.assertTrue(plain or isinstance(told, ast.Attribute) and told.attr == "setter", path)

    def test_names(self):
        barred = BARRED_NAMES | set(dir(builtins))
        for path, tree in trees():
            for name in bound_names(tree):
                if name not in ("__init__", "__eq__", "__len__", "_"):
                    self.assertTrue(re.fullmatch(r"_?[A-Za-z][A-Za-z0-9_]*", name), f"{path}: {name}")
                    self.assertNotIn(name, barred, path)

    def test_builtins(self):
        # Tests of examples leave a name _ among the builtins.
        others = set(dir(builtins)) - BUILTINS - {"_"}
        for path, tree in trees():
            for node in ast.walk(tree):
                if isinstance(node, ast.Name):
                    self.assertNotIn(node.id, others, f"{path}:{node.lineno}")

    def test_methods(self):
        own = {node.name for _, tree in trees() for node in ast.walk(tree) if isinstance(node, ast.FunctionDef)}
        for path, tree in trees():
            for node in ast.walk(tree):
                if isinstance(node, ast.Call) and isinstance(node.func, ast.Attribute):
                    self.assertIn(node.func.attr, METHODS | own, f"{path}:{node.lineno}")

    def test_words(self):
        for path, tree in trees():
            text = ast.unparse(tree)
            for word in re.findall(r"\w+", text):
                self.assertNotIn(word, BARRED_WORDS, path)

    def test_no_function_has_state(self):
        for path, tree in trees():
            for node in ast.walk(tree):
                if isinstance(node, ast.arguments):
                    for default in node.defaults + [told for told in node.kw_defaults if told is not None]:
                        self.assertNotIsInstance(default, (ast.List, ast.Dict, ast.Set, ast.Call), path)

    def test_sets_are_not_iterated(self):
        for path, tree in trees():
            for node in ast.walk(tree):
                if isinstance(node, (ast.For, ast.comprehension)):
                    self.assertNotIsInstance(node.iter, (ast.Set, ast.SetComp), path)
                    called = node.iter.func if isinstance(node.iter, ast.Call) else None
                    self.assertNotIn(getattr(called, "id", None), ("set", "frozenset"), path)

    def test_errors_are_made_where_they_are_raised(self):
        for path, tree in trees():
            for node in ast.walk(tree):
                if isinstance(node, ast.Raise) and node.exc is not None:
                    self.assertIsInstance(node.exc, ast.Call, f"{path}:{node.lineno}")
                    self.assertIsInstance(node.exc.func, ast.Name, f"{path}:{node.lineno}")
                if isinstance(node, ast.ExceptHandler):
                    self.assertIsNotNone(node.type, f"{path}:{node.lineno}")
