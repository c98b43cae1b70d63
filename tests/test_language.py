"""The rules of the Python subset that can be seen file by file, and how the package is laid out."""

import ast
import builtins
import pathlib
import re
import unittest
import warnings

PACKAGE = pathlib.Path(__file__).resolve().parent.parent / "fewestrules"
FILES = sorted(path for path in PACKAGE.rglob("*") if "__pycache__" not in path.parts)
LIBRARY = {
    "heapq": {"heappush", "heappop", "heapify", "heapreplace", "heappushpop"},
    "math": {"gcd", "lcm", "isqrt", "comb", "perm", "factorial"},
    "itertools": {"product", "combinations", "permutations", "chain", "accumulate", "pairwise", "islice",
                  "zip_longest"},
    "collections": {"defaultdict"},
}
BUILTINS = set("""
len range enumerate zip min max sum abs sorted reversed int str bool list tuple dict set frozenset isinstance ord
repr any all divmod pow getattr hasattr setattr iter next map Exception ValueError TypeError KeyError IndexError
LookupError ZeroDivisionError ArithmeticError OverflowError RuntimeError NotImplementedError AttributeError
StopIteration NotImplemented super property staticmethod classmethod
""".split())
METHODS = set("""
append clear copy count endswith extend find get index insert isalnum isalpha isdigit islower isspace isupper items
join keys ljust lower lstrip partition pop remove replace reverse rfind rjust rpartition rsplit rstrip setdefault
split splitlines startswith strip update upper values zfill bit_length __init__
""".split())
BARRED_NAMES = set("""
register mro elements open input law version_info with_traceback add_note attrgetter breakpoint builtins compile
copyright credits delattr dir eval exec exit gc globals help id importlib license locals methodcaller os quit vars
sys
""".split())
BARRED_WORDS = set("""
type typing typing_extensions enum Enum IntEnum StrEnum Flag IntFlag Generic Protocol ABC ABCMeta namedtuple
NamedTuple TypedDict TYPE_CHECKING abstractmethod dataclass overload contextmanager
""".split())
# An interactive session, as doctest runs one, adds the name _ to the builtins.
OF_PYTHON = set(dir(builtins)) - {"_"}
STATEMENTS = (ast.Assign, ast.AugAssign, ast.If, ast.While, ast.For, ast.Return, ast.Break, ast.Continue, ast.Pass,
              ast.Raise, ast.Assert, ast.Delete, ast.Expr, ast.Try, ast.FunctionDef, ast.ClassDef, ast.ImportFrom)
LITERALS = (ast.Constant, ast.Tuple, ast.List, ast.Dict, ast.UnaryOp, ast.Name)


def parsed():
    """Each file of the package with its text and its tree."""
    for path in FILES:
        if path.suffix == ".py":
            text = path.read_text(encoding="utf-8")
            yield path, text, ast.parse(text)


def module_names(tree):
    """The names that a file defines, and those that it imports."""
    defined, imported = [], []
    for row in tree.body:
        if isinstance(row, (ast.FunctionDef, ast.ClassDef)):
            defined.append(row.name)
        elif isinstance(row, ast.Assign):
            defined.extend(target.id for target in row.targets)
        elif isinstance(row, ast.ImportFrom):
            imported.extend(name.name for name in row.names)
    return defined, imported


def classes():
    """Each class of the package, as its file, its name and the statements in it."""
    for path, _, tree in parsed():
        for row in tree.body:
            if isinstance(row, ast.ClassDef):
                yield path, row.name, row.body


def docstrings(tree):
    """The nodes of the docstrings of a file."""
    found = []
    for node in ast.walk(tree):
        if isinstance(node, (ast.Module, ast.FunctionDef, ast.ClassDef)) and ast.get_docstring(node, False) is not None:
            found.append(node.body[0].value)
    return found


class Files(unittest.TestCase):
    def test_only_plain_files(self):
        self.assertIn(PACKAGE / "__init__.py", FILES)
        for path in FILES:
            self.assertTrue(path.is_file() and re.fullmatch(r"[a-z_0-9]+\.py", path.name), path)

    def test_sizes_and_characters(self):
        for path, text, tree in parsed():
            lines = text.split("\n")
            self.assertLessEqual(len(lines) - 1, 399, path)
            self.assertTrue(all(" " <= sign <= "~" or sign == "\n" for sign in text), path)
            self.assertLessEqual(max(len(line) for line in lines), 120, path)
            for node in ast.walk(tree):
                if isinstance(node, ast.FunctionDef):
                    self.assertLessEqual(node.end_lineno - node.lineno + 1, 40, (path, node.name))

    def test_no_warnings(self):
        for path, text, _ in parsed():
            with warnings.catch_warnings():
                warnings.simplefilter("error")
                compile(text, str(path), "exec")


class Modules(unittest.TestCase):
    def test_imports_name_the_very_file(self):
        defined = {f"fewestrules.{path.stem}": module_names(tree)[0] for path, _, tree in parsed()}
        for path, _, tree in parsed():
            for node in ast.walk(tree):
                self.assertNotIsInstance(node, ast.Import, path)
                if not isinstance(node, ast.ImportFrom):
                    continue
                self.assertIn(node, tree.body, path)
                known = LIBRARY.get(node.module, defined.get(node.module, ()))
                for name in node.names:
                    self.assertIn(name.name, known, path)
                    self.assertIsNone(name.asname, path)

    def test_no_two_files_import_from_each_other(self):
        imports = {}
        for path, _, tree in parsed():
            rows = [node.module for node in ast.walk(tree) if isinstance(node, ast.ImportFrom)]
            imports[f"fewestrules.{path.stem}"] = [name for name in rows if name.startswith("fewestrules.")]
        while imports:
            free = [name for name, needed in imports.items() if not any(other in imports for other in needed)]
            self.assertTrue(free, imports)
            for name in free:
                del imports[name]

    def test_module_level(self):
        for path, _, tree in parsed():
            for place, row in enumerate(tree.body):
                if isinstance(row, ast.Assign):
                    self.assertTrue(all(isinstance(target, ast.Name) for target in row.targets), path)
                    self.assertIsInstance(row.value, LITERALS, path)
                elif isinstance(row, ast.Expr):
                    self.assertTrue(place == 0 and isinstance(row.value, ast.Constant), path)
                else:
                    self.assertIsInstance(row, (ast.ImportFrom, ast.FunctionDef, ast.ClassDef), path)
            defined, imported = module_names(tree)
            self.assertEqual(len(set(defined + imported)), len(defined + imported), path)


class Names(unittest.TestCase):
    def test_bound_names(self):
        for path, _, tree in parsed():
            _, imported = module_names(tree)
            classes = [row.name for row in tree.body if isinstance(row, ast.ClassDef)]
            for node in ast.walk(tree):
                name = None
                if isinstance(node, ast.Name) and isinstance(node.ctx, ast.Store):
                    name = node.id
                elif isinstance(node, ast.arg):
                    name = node.arg
                if name is not None:
                    self.assertNotIn(name, imported + classes, path)
                if isinstance(node, (ast.FunctionDef, ast.ClassDef)):
                    name = node.name
                if name not in (None, "__init__"):
                    self.assertNotIn(name, BARRED_NAMES, path)
                    self.assertFalse(name in OF_PYTHON or name.startswith("__"), (path, name))

    def test_only_these_builtins(self):
        for path, _, tree in parsed():
            for node in ast.walk(tree):
                if isinstance(node, ast.Name) and node.id in OF_PYTHON:
                    self.assertIn(node.id, BUILTINS, path)

    def test_only_these_methods(self):
        own = {row.name for _, _, body in classes() for row in body if isinstance(row, ast.FunctionDef)}
        for path, _, tree in parsed():
            for node in ast.walk(tree):
                if isinstance(node, ast.Call) and isinstance(node.func, ast.Attribute):
                    self.assertIn(node.func.attr, METHODS | own, path)

    def test_barred_words(self):
        for path, _, tree in parsed():
            skipped = docstrings(tree)
            for node in ast.walk(tree):
                for word in re.findall(r"\w+", self.word_of(node)):
                    if node not in skipped:
                        self.assertNotIn(word, BARRED_WORDS, path)
                if isinstance(node, ast.Constant) and isinstance(node.value, str):
                    self.assertNotIn(chr(37), node.value, path)

    def word_of(self, node):
        for name in ("id", "arg", "attr", "name", "value"):
            if isinstance(getattr(node, name, None), str):
                return getattr(node, name)
        return ""


class Classes(unittest.TestCase):
    def test_only_plain_methods(self):
        for path, name, body in classes():
            for place, row in enumerate(body):
                if isinstance(row, ast.Expr):
                    self.assertTrue(place == 0 and isinstance(row.value, ast.Constant), (path, name))
                else:
                    self.assertIsInstance(row, ast.FunctionDef, (path, name))
            methods = [row.name for row in body if isinstance(row, ast.FunctionDef)]
            self.assertEqual(len(set(methods)), len(methods), (path, name))

    def test_no_name_is_a_method_and_an_attribute(self):
        methods = {row.name for _, _, body in classes() for row in body if isinstance(row, ast.FunctionDef)}
        assigned, read = set(), set()
        for _, _, tree in parsed():
            for node in ast.walk(tree):
                if isinstance(node, ast.Attribute):
                    (assigned if isinstance(node.ctx, ast.Store) else read).add(node.attr)
        self.assertFalse(assigned & methods)
        self.assertFalse(read - assigned - methods - METHODS)


class Statements(unittest.TestCase):
    def test_only_these_statements(self):
        for path, _, tree in parsed():
            for node in ast.walk(tree):
                if isinstance(node, ast.stmt):
                    self.assertIsInstance(node, STATEMENTS, path)
                if isinstance(node, ast.FunctionDef):
                    self.assertFalse(node.decorator_list, path)
                self.assertNotIsInstance(node, (ast.Global, ast.Nonlocal, ast.Await, ast.Yield, ast.YieldFrom), path)

    def test_values(self):
        for path, _, tree in parsed():
            for node in ast.walk(tree):
                if isinstance(node, ast.Constant):
                    self.assertNotIsInstance(node.value, (float, complex, bytes), path)
                if isinstance(node, ast.BinOp):
                    self.assertNotIsInstance(node.op, (ast.Div, ast.MatMult), path)

    def test_caught_errors(self):
        own = [row.name for _, _, tree in parsed() for row in tree.body if isinstance(row, ast.ClassDef)]
        for path, _, tree in parsed():
            for node in ast.walk(tree):
                if isinstance(node, ast.ExceptHandler):
                    self.assertIsInstance(node.type, ast.Name, path)
                    self.assertIn(node.type.id, own + ["KeyError", "ZeroDivisionError"], path)

    def test_ranges_and_the_like_are_not_passed_on(self):
        lazy = ("range", "zip", "enumerate", "reversed", "combinations", "permutations")
        takers = ("list", "tuple", "dict", "sorted", "sum", "any", "all", "enumerate", "zip", "max", "min", "len",
                  "reversed", "combinations")
        for path, _, tree in parsed():
            for node in ast.walk(tree):
                if isinstance(node, ast.Call):
                    taker = node.func.id if isinstance(node.func, ast.Name) else node.func.attr
                    for argument in node.args:
                        if isinstance(argument, ast.Call) and isinstance(argument.func, ast.Name):
                            self.assertTrue(argument.func.id not in lazy or taker in takers, (path, node.lineno))

    def test_is_stands_with_none_and_truth(self):
        for path, _, tree in parsed():
            for node in ast.walk(tree):
                if isinstance(node, ast.Compare) and any(isinstance(sign, (ast.Is, ast.IsNot)) for sign in node.ops):
                    sides = [node.left] + node.comparators
                    plain = [side for side in sides if isinstance(side, ast.Constant)]
                    self.assertTrue(any(side.value is None or isinstance(side.value, bool) for side in plain), path)

    def test_generator_expressions_are_taken_at_once(self):
        takers = ("list", "tuple", "dict", "sorted", "sum", "min", "max", "any", "all")
        for path, _, tree in parsed():
            taken = []
            for node in ast.walk(tree):
                if isinstance(node, ast.Call) and isinstance(node.func, ast.Name) and node.func.id in takers:
                    taken.extend(node.args[:1])
            for node in ast.walk(tree):
                if isinstance(node, ast.GeneratorExp):
                    self.assertIn(node, taken, path)
