"""The rules of the Python subset that a look at the code can tell: the others are left to the reader."""

import ast
import builtins
import pathlib
import re
import unittest
import warnings

PACKAGE = pathlib.Path(__file__).resolve().parent.parent / "surepresses"
LIBRARY = {
    "heapq": "heappush heappop heapify heapreplace heappushpop",
    "math": "gcd lcm isqrt comb perm factorial",
    "itertools": "product combinations permutations chain accumulate pairwise islice zip_longest",
    "collections": "defaultdict",
}
ALLOWED_BUILTINS = set("""
len range enumerate zip min max sum abs sorted reversed int str bool list tuple dict set isinstance ord repr any all
divmod pow iter next property staticmethod classmethod super object map Exception ValueError TypeError KeyError
IndexError LookupError ZeroDivisionError ArithmeticError OverflowError RuntimeError NotImplementedError AttributeError
StopIteration NotImplemented
""".split())
BUILTIN_METHODS = set("""
append clear copy count endswith extend find get index insert isalnum isalpha isdigit islower isspace isupper items
join keys ljust lower lstrip partition pop remove replace reverse rfind rjust rpartition rsplit rstrip setdefault split
splitlines startswith strip update upper values zfill bit_length add discard
""".split())
BARRED_WORDS = set("""
register mro elements open input law version_info with_traceback add_note attrgetter breakpoint builtins compile
copyright credits delattr dir eval exec exit gc globals help id importlib license locals methodcaller os quit type
vars sys typing typing_extensions enum Enum IntEnum StrEnum Flag IntFlag Generic Protocol ABC ABCMeta namedtuple
NamedTuple TypedDict TYPE_CHECKING abstractmethod dataclass overload contextmanager
""".split())
BARRED_NODES = (
    ast.Global, ast.AsyncFunctionDef, ast.AsyncFor, ast.AsyncWith, ast.Await, ast.Div, ast.MatMult, ast.GeneratorExp,
    ast.Yield, ast.YieldFrom, ast.Import, ast.TryStar, ast.Delete,
)
METHODS = {"__init__", "__eq__", "__len__", "__call__", "__repr__", "__str__"}
CATCHABLE = {"KeyError", "ZeroDivisionError"}


def files():
    return sorted(PACKAGE.rglob("*.py"))


def parsed(path):
    with warnings.catch_warnings():
        warnings.simplefilter("error")
        tree = ast.parse(path.read_text(encoding="utf-8"))
        compile(tree, str(path), "exec")
    return tree


def nodes(kind):
    """Return (place, node) for each node of a kind in the package."""
    return [
        (f"{path.name}:{getattr(node, 'lineno', 0)}", node)
        for path in files() for node in ast.walk(parsed(path)) if isinstance(node, kind)
    ]


def own_classes():
    return {node.name: node for _, node in nodes(ast.ClassDef)}


def own_methods():
    return {
        node.name for made in own_classes().values() for node in made.body if isinstance(node, ast.FunctionDef)
    }


def docstrings(tree):
    """Return the nodes of the docstrings of a tree."""
    holders = [tree] + [node for node in ast.walk(tree) if isinstance(node, (ast.ClassDef, ast.FunctionDef))]
    return [
        node.body[0].value for node in holders
        if node.body and isinstance(node.body[0], ast.Expr) and isinstance(node.body[0].value, ast.Constant)
    ]


class FileTest(unittest.TestCase):
    def test_folder(self):
        for path in PACKAGE.rglob("*"):
            if "__pycache__" not in path.parts:
                self.assertRegex(path.name, r"^[a-z_][a-z0-9_]*\.py$")
                self.assertFalse(path.name.startswith("test"))

    def test_sizes_and_characters(self):
        for path in files():
            text = path.read_text(encoding="utf-8")
            self.assertLessEqual(len(text.splitlines()), 399, path)
            self.assertIsNone(re.search(r"[^ -~\n]", text), path)
            for line in text.splitlines():
                self.assertLessEqual(len(line), 120, (path, line))

    def test_functions_are_small(self):
        for place, node in nodes(ast.FunctionDef):
            self.assertLessEqual(node.end_lineno - node.lineno + 1, 40, place)

    def test_module_level(self):
        for path in files():
            for node in parsed(path).body:
                plain = isinstance(node, (ast.ImportFrom, ast.FunctionDef, ast.ClassDef))
                docstring = isinstance(node, ast.Expr) and isinstance(node.value, ast.Constant)
                value = isinstance(node, ast.Assign) and len(node.targets) == 1 and isinstance(
                    node.targets[0], ast.Name) and not [n for n in ast.walk(node) if isinstance(n, ast.Call)]
                self.assertTrue(plain or docstring or value, (path, node.lineno))


class ImportTest(unittest.TestCase):
    def test_imports_name_the_file_that_defines_the_name(self):
        for place, node in nodes(ast.ImportFrom):
            self.assertEqual(node.level, 0, place)
            names = [alias.name for alias in node.names]
            if node.module in LIBRARY:
                self.assertLessEqual(set(names), set(LIBRARY[node.module].split()), place)
                continue
            self.assertRegex(node.module, r"^surepresses\.[a-z]+$", place)
            defined = set()
            for inner in parsed(PACKAGE / (node.module.split(".")[1] + ".py")).body:
                if isinstance(inner, (ast.FunctionDef, ast.ClassDef)):
                    defined.add(inner.name)
                elif isinstance(inner, ast.Assign):
                    defined.add(inner.targets[0].id)
            self.assertLessEqual(set(names), defined, place)

    def test_library_names_are_only_called(self):
        for path in files():
            tree = parsed(path)
            names = {
                alias.name for node in tree.body if isinstance(node, ast.ImportFrom) and node.module in LIBRARY
                for alias in node.names}
            called = {id(node.func) for node in ast.walk(tree) if isinstance(node, ast.Call) and not node.keywords}
            for node in ast.walk(tree):
                if isinstance(node, ast.Name) and node.id in names:
                    self.assertIn(id(node), called, (path, node.lineno))
                elif isinstance(node, ast.arg):
                    self.assertNotIn(node.arg, names, (path, node.lineno))
                elif isinstance(node, (ast.FunctionDef, ast.ClassDef)):
                    self.assertNotIn(node.name, names, (path, node.lineno))

    def test_no_two_files_import_from_each_other(self):
        leads = {
            path.stem: [
                node.module.split(".")[-1] for node in parsed(path).body
                if isinstance(node, ast.ImportFrom) and node.module.startswith("surepresses.")
            ] for path in files()
        }
        while leads:
            free = [name for name in leads if not [other for other in leads[name] if other in leads]]
            self.assertTrue(free, leads)
            for name in free:
                del leads[name]

    def test_every_import_is_used(self):
        for path in files():
            tree = parsed(path)
            used = {node.id for node in ast.walk(tree) if isinstance(node, ast.Name)}
            for node in tree.body:
                if isinstance(node, ast.ImportFrom):
                    self.assertLessEqual({alias.name for alias in node.names}, used, path)


class CodeTest(unittest.TestCase):
    def test_nothing_that_is_not_allowed(self):
        self.assertEqual([place for place, _ in nodes(BARRED_NODES)], [])
        for place, node in nodes(ast.Constant):
            self.assertNotIsInstance(node.value, (float, complex), place)

    def test_builtins(self):
        barred = set(dir(builtins)) - ALLOWED_BUILTINS
        for place, node in nodes(ast.Name):
            self.assertNotIn(node.id, barred, place)
            if isinstance(node.ctx, ast.Store):
                self.assertNotIn(node.id, dir(builtins), place)
        for place, node in nodes((ast.FunctionDef, ast.ClassDef)):
            self.assertNotIn(node.name, dir(builtins), place)
        for place, node in nodes(ast.arg):
            self.assertNotIn(node.arg, dir(builtins), place)

    def test_methods_of_builtin_values(self):
        own = own_methods() | set(own_classes())
        for place, node in nodes(ast.Call):
            if isinstance(node.func, ast.Attribute):
                self.assertIn(node.func.attr, BUILTIN_METHODS | own, place)
                self.assertNotEqual(node.func.attr, "sort", place)

    def test_double_underscore_methods_and_decorators(self):
        for place, node in nodes(ast.FunctionDef):
            if node.name.startswith("__"):
                self.assertIn(node.name, METHODS, place)
            for decorator in node.decorator_list:
                self.assertIsInstance(decorator, ast.Name, place)
                self.assertIn(decorator.id, ("property", "staticmethod", "classmethod"), place)
        for place, node in nodes(ast.ClassDef):
            self.assertEqual(node.decorator_list, [], place)

    def test_property_names_are_no_other_names(self):
        plain, properties = set(), set()
        for made in own_classes().values():
            for node in made.body:
                if isinstance(node, ast.FunctionDef):
                    (properties if node.decorator_list else plain).add(node.name)
        stored = {node.attr for _, node in nodes(ast.Attribute) if isinstance(node.ctx, ast.Store)}
        self.assertEqual(properties & (plain | stored | BUILTIN_METHODS), set())

    def test_attributes_that_are_read_are_assigned(self):
        stored = {node.attr for _, node in nodes(ast.Attribute) if isinstance(node.ctx, ast.Store)}
        known = stored | own_methods() | BUILTIN_METHODS
        for place, node in nodes(ast.Attribute):
            self.assertIn(node.attr, known, place)

    def test_identity_is_asked_of_none_true_and_false(self):
        for place, node in nodes(ast.Compare):
            for sign, side in zip(node.ops, node.comparators):
                if isinstance(sign, (ast.Is, ast.IsNot)):
                    self.assertIsInstance(side, ast.Constant, place)

    def test_errors(self):
        errors = {
            node.name for node in parsed(PACKAGE / "errors.py").body if isinstance(node, ast.ClassDef)}
        for place, node in nodes(ast.ExceptHandler):
            self.assertIsInstance(node.type, ast.Name, place)
            self.assertIn(node.type.id, errors | CATCHABLE, place)
        for place, node in nodes(ast.Raise):
            if node.exc is not None:
                self.assertIsInstance(node.exc, ast.Call, place)
                self.assertIn(node.exc.func.id, errors, place)

    def test_sets_are_sorted_or_measured_at_once(self):
        for path in files():
            tree = parsed(path)
            allowed = set()
            for node in ast.walk(tree):
                if isinstance(node, ast.Call) and isinstance(node.func, ast.Name) and node.func.id in ("sorted", "len"):
                    allowed.update(id(arg) for arg in node.args)
            for node in ast.walk(tree):
                called = isinstance(node, ast.Call) and isinstance(node.func, ast.Name) and node.func.id == "set"
                if called or isinstance(node, (ast.Set, ast.SetComp)):
                    self.assertIn(id(node), allowed, (path, node.lineno))

    def test_words_and_strings(self):
        for path in files():
            tree = parsed(path)
            told = [id(node) for node in docstrings(tree)]
            for node in ast.walk(tree):
                if isinstance(node, ast.Constant) and isinstance(node.value, str):
                    self.assertNotIn("%", node.value, (path, node.lineno))
                    if id(node) not in told:
                        self.assertFalse(BARRED_WORDS & set(re.findall(r"\w+", node.value)), (path, node.lineno))
                for field in ("id", "attr", "arg", "name"):
                    self.assertNotIn(getattr(node, field, None), BARRED_WORDS, path)

    def test_names_begin_with_at_most_one_underscore(self):
        for place, node in nodes((ast.Name, ast.arg, ast.Attribute)):
            if ast.unparse(node) != "super().__init__":
                for field in ("id", "arg", "attr"):
                    self.assertFalse(getattr(node, field, "").startswith("__"), place)

    def test_super_calls_a_method_at_once(self):
        for path in files():
            tree = parsed(path)
            called = [
                id(node.func.value) for node in ast.walk(tree)
                if isinstance(node, ast.Call) and isinstance(node.func, ast.Attribute)]
            for node in ast.walk(tree):
                if isinstance(node, ast.Call) and isinstance(node.func, ast.Name) and node.func.id == "super":
                    self.assertIn(id(node), called, (path, node.lineno))
                    self.assertEqual(node.args, [], (path, node.lineno))
